import PyProof.Rows.All
import Wide.All
import OpenK.AllK
import Wide.FinOn
import PySem.Challenge.RW_nextbough_k27_whole_who_can_be_turned
import HandS.ForMost
import HandS.ForExc
import HandS.Deep
import HandS.TupAny
import HandS.TupMul
import HandS.ExcInit
import HandS.ExcField
import HandS.IsInst
import HandS.Conv
import HandS.Evl
import KE.GoesMore
import HandS.Walk
import HandS.TupLe
import HandS.NamedTupSort
import KE.GoesEnum
import HandS.Zip
import HandS.More
import HandS.Dict
import HandS.ExcIs
import KE.KExcIs
set_option Elab.async false
set_option linter.all false
set_option maxRecDepth 100000
set_option maxHeartbeats 2000000
namespace K27
open PySem PySem.Spec PyProof.Rows L2
def topS (i : Nat) : Stmt := PySem.Challenge.pw_nextbough_k27_whole_who_can_be_turned.main.body.getD i (.Pass ⟨0, 0, 0, 0⟩)
abbrev s_wall : Stmt := topS 0
abbrev N_wall : List Str := ["k"]
theorem sc_wall : FnScope N_wall ["k"] (defScope s_wall) := ⟨rfl, rfl, rfl, by decide +kernel, rfl, by decide +kernel, by decide +kernel⟩
abbrev s_InvalidPaper_init : Stmt := inClass (topS 5) 0
abbrev N_InvalidPaper_init : List Str := ["self", "word", "at"]
theorem sc_InvalidPaper_init : FnScope N_InvalidPaper_init ["self", "word", "at"] (defScope s_InvalidPaper_init) := ⟨rfl, rfl, rfl, by decide +kernel, rfl, by decide +kernel, by decide +kernel⟩
abbrev s_NotUsable_init : Stmt := inClass (topS 6) 0
abbrev N_NotUsable_init : List Str := ["self", "word", "at"]
theorem sc_NotUsable_init : FnScope N_NotUsable_init ["self", "word", "at"] (defScope s_NotUsable_init) := ⟨rfl, rfl, rfl, by decide +kernel, rfl, by decide +kernel, by decide +kernel⟩
abbrev s_is_integer : Stmt := topS 9
abbrev N_is_integer : List Str := ["thing"]
theorem sc_is_integer : FnScope N_is_integer ["thing"] (defScope s_is_integer) := ⟨rfl, rfl, rfl, by decide +kernel, rfl, by decide +kernel, by decide +kernel⟩
abbrev s_is_number : Stmt := topS 10
abbrev N_is_number : List Str := ["thing"]
theorem sc_is_number : FnScope N_is_number ["thing"] (defScope s_is_number) := ⟨rfl, rfl, rfl, by decide +kernel, rfl, by decide +kernel, by decide +kernel⟩
abbrev s_is_below : Stmt := topS 11
abbrev N_is_below : List Str := ["thing", "bound"]
theorem sc_is_below : FnScope N_is_below ["thing", "bound"] (defScope s_is_below) := ⟨rfl, rfl, rfl, by decide +kernel, rfl, by decide +kernel, by decide +kernel⟩
abbrev s_need : Stmt := topS 12
abbrev N_need : List Str := ["fits", "word"]
theorem sc_need : FnScope N_need ["fits", "word"] (defScope s_need) := ⟨rfl, rfl, rfl, by decide +kernel, rfl, by decide +kernel, by decide +kernel⟩
abbrev s_is_shape : Stmt := topS 15
abbrev N_is_shape : List Str := ["thing"]
theorem sc_is_shape : FnScope N_is_shape ["thing"] (defScope s_is_shape) := ⟨rfl, rfl, rfl, by decide +kernel, rfl, by decide +kernel, by decide +kernel⟩
abbrev s_has_forks_of : Stmt := topS 16
abbrev N_has_forks_of : List Str := ["thing", "least", "left", "part"]
theorem sc_has_forks_of : FnScope N_has_forks_of ["thing", "least"] (defScope s_has_forks_of) := ⟨rfl, rfl, rfl, by decide +kernel, rfl, by decide +kernel, by decide +kernel⟩
abbrev s_need_shape : Stmt := topS 17
abbrev N_need_shape : List Str := ["form", "word"]
theorem sc_need_shape : FnScope N_need_shape ["form", "word"] (defScope s_need_shape) := ⟨rfl, rfl, rfl, by decide +kernel, rfl, by decide +kernel, by decide +kernel⟩
abbrev s_ShapeTree_init : Stmt := inClass (topS 19) 0
abbrev N_ShapeTree_init : List Str := ["self", "form"]
theorem sc_ShapeTree_init : FnScope N_ShapeTree_init ["self", "form"] (defScope s_ShapeTree_init) := ⟨rfl, rfl, rfl, by decide +kernel, rfl, by decide +kernel, by decide +kernel⟩
abbrev s_ShapeTree_grow : Stmt := inClass (topS 19) 1
abbrev N_ShapeTree_grow : List Str := ["self", "bough", "above", "side", "node", "path", "kids", "place", "kid"]
theorem sc_ShapeTree_grow : FnScope N_ShapeTree_grow ["self", "bough", "above", "side"] (defScope s_ShapeTree_grow) := ⟨rfl, rfl, rfl, by decide +kernel, rfl, by decide +kernel, by decide +kernel⟩
abbrev s_ShapeTree_form_of : Stmt := inClass (topS 19) 2
abbrev N_ShapeTree_form_of : List Str := ["self"]
theorem sc_ShapeTree_form_of : FnScope N_ShapeTree_form_of ["self"] (defScope s_ShapeTree_form_of) := ⟨rfl, rfl, rfl, by decide +kernel, rfl, by decide +kernel, by decide +kernel⟩
abbrev s_ShapeTree_bough_of : Stmt := inClass (topS 19) 3
abbrev N_ShapeTree_bough_of : List Str := ["self", "node"]
theorem sc_ShapeTree_bough_of : FnScope N_ShapeTree_bough_of ["self", "node"] (defScope s_ShapeTree_bough_of) := ⟨rfl, rfl, rfl, by decide +kernel, rfl, by decide +kernel, by decide +kernel⟩
abbrev s_ShapeTree_parent_of : Stmt := inClass (topS 19) 4
abbrev N_ShapeTree_parent_of : List Str := ["self", "node"]
theorem sc_ShapeTree_parent_of : FnScope N_ShapeTree_parent_of ["self", "node"] (defScope s_ShapeTree_parent_of) := ⟨rfl, rfl, rfl, by decide +kernel, rfl, by decide +kernel, by decide +kernel⟩
abbrev s_ShapeTree_kids_of : Stmt := inClass (topS 19) 5
abbrev N_ShapeTree_kids_of : List Str := ["self", "node"]
theorem sc_ShapeTree_kids_of : FnScope N_ShapeTree_kids_of ["self", "node"] (defScope s_ShapeTree_kids_of) := ⟨rfl, rfl, rfl, by decide +kernel, rfl, by decide +kernel, by decide +kernel⟩
abbrev s_ShapeTree_depth_of : Stmt := inClass (topS 19) 6
abbrev N_ShapeTree_depth_of : List Str := ["self", "node"]
theorem sc_ShapeTree_depth_of : FnScope N_ShapeTree_depth_of ["self", "node"] (defScope s_ShapeTree_depth_of) := ⟨rfl, rfl, rfl, by decide +kernel, rfl, by decide +kernel, by decide +kernel⟩
abbrev s_ShapeTree_low_of : Stmt := inClass (topS 19) 7
abbrev N_ShapeTree_low_of : List Str := ["self", "node"]
theorem sc_ShapeTree_low_of : FnScope N_ShapeTree_low_of ["self", "node"] (defScope s_ShapeTree_low_of) := ⟨rfl, rfl, rfl, by decide +kernel, rfl, by decide +kernel, by decide +kernel⟩
abbrev s_ShapeTree_high_of : Stmt := inClass (topS 19) 8
abbrev N_ShapeTree_high_of : List Str := ["self", "node"]
theorem sc_ShapeTree_high_of : FnScope N_ShapeTree_high_of ["self", "node"] (defScope s_ShapeTree_high_of) := ⟨rfl, rfl, rfl, by decide +kernel, rfl, by decide +kernel, by decide +kernel⟩
abbrev s_ShapeTree_node_of : Stmt := inClass (topS 19) 9
abbrev N_ShapeTree_node_of : List Str := ["self", "queue"]
theorem sc_ShapeTree_node_of : FnScope N_ShapeTree_node_of ["self", "queue"] (defScope s_ShapeTree_node_of) := ⟨rfl, rfl, rfl, by decide +kernel, rfl, by decide +kernel, by decide +kernel⟩
abbrev s_ShapeTree_queue_at : Stmt := inClass (topS 19) 10
abbrev N_ShapeTree_queue_at : List Str := ["self", "node"]
theorem sc_ShapeTree_queue_at : FnScope N_ShapeTree_queue_at ["self", "node"] (defScope s_ShapeTree_queue_at) := ⟨rfl, rfl, rfl, by decide +kernel, rfl, by decide +kernel, by decide +kernel⟩
abbrev s_ShapeTree_path_of : Stmt := inClass (topS 19) 11
abbrev N_ShapeTree_path_of : List Str := ["self", "queue"]
theorem sc_ShapeTree_path_of : FnScope N_ShapeTree_path_of ["self", "queue"] (defScope s_ShapeTree_path_of) := ⟨rfl, rfl, rfl, by decide +kernel, rfl, by decide +kernel, by decide +kernel⟩
abbrev s_ShapeTree_meet_of : Stmt := inClass (topS 19) 12
abbrev N_ShapeTree_meet_of : List Str := ["self", "one", "other"]
theorem sc_ShapeTree_meet_of : FnScope N_ShapeTree_meet_of ["self", "one", "other"] (defScope s_ShapeTree_meet_of) := ⟨rfl, rfl, rfl, by decide +kernel, rfl, by decide +kernel, by decide +kernel⟩
abbrev s_ShapeTree_lies_in : Stmt := inClass (topS 19) 13
abbrev N_ShapeTree_lies_in : List Str := ["self", "node", "top"]
theorem sc_ShapeTree_lies_in : FnScope N_ShapeTree_lies_in ["self", "node", "top"] (defScope s_ShapeTree_lies_in) := ⟨rfl, rfl, rfl, by decide +kernel, rfl, by decide +kernel, by decide +kernel⟩
abbrev s_ShapeTree_toward : Stmt := inClass (topS 19) 14
abbrev N_ShapeTree_toward : List Str := ["self", "node", "down"]
theorem sc_ShapeTree_toward : FnScope N_ShapeTree_toward ["self", "node", "down"] (defScope s_ShapeTree_toward) := ⟨rfl, rfl, rfl, by decide +kernel, rfl, by decide +kernel, by decide +kernel⟩
abbrev s_need_queue : Stmt := topS 20
abbrev N_need_queue : List Str := ["tree", "queue", "word"]
theorem sc_need_queue : FnScope N_need_queue ["tree", "queue", "word"] (defScope s_need_queue) := ⟨rfl, rfl, rfl, by decide +kernel, rfl, by decide +kernel, by decide +kernel⟩
abbrev s_shape_tree : Stmt := topS 21
abbrev N_shape_tree : List Str := ["form", "word"]
theorem sc_shape_tree : FnScope N_shape_tree ["form", "word"] (defScope s_shape_tree) := ⟨rfl, rfl, rfl, by decide +kernel, rfl, by decide +kernel, by decide +kernel⟩
abbrev s_is_within : Stmt := topS 22
abbrev N_is_within : List Str := ["tree", "node", "top"]
theorem sc_is_within : FnScope N_is_within ["tree", "node", "top"] (defScope s_is_within) := ⟨rfl, rfl, rfl, by decide +kernel, rfl, by decide +kernel, by decide +kernel⟩
abbrev s_meet_in : Stmt := topS 23
abbrev N_meet_in : List Str := ["tree", "one", "other", "top"]
theorem sc_meet_in : FnScope N_meet_in ["tree", "one", "other"] (defScope s_meet_in) := ⟨rfl, rfl, rfl, by decide +kernel, rfl, by decide +kernel, by decide +kernel⟩
abbrev s_side_toward : Stmt := topS 24
abbrev N_side_toward : List Str := ["tree", "node", "down", "step"]
theorem sc_side_toward : FnScope N_side_toward ["tree", "node", "down"] (defScope s_side_toward) := ⟨rfl, rfl, rfl, by decide +kernel, rfl, by decide +kernel, by decide +kernel⟩
abbrev s_is_rank : Stmt := topS 28
abbrev N_is_rank : List Str := ["thing", "part"]
theorem sc_is_rank : FnScope N_is_rank ["thing"] (defScope s_is_rank) := ⟨rfl, rfl, rfl, by decide +kernel, rfl, by decide +kernel, by decide +kernel⟩
abbrev s_fit_path : Stmt := topS 29
abbrev N_fit_path : List Str := ["tree", "queue", "thing", "rank"]
theorem sc_fit_path : FnScope N_fit_path ["tree", "queue", "thing"] (defScope s_fit_path) := ⟨rfl, rfl, rfl, by decide +kernel, rfl, by decide +kernel, by decide +kernel⟩
abbrev s_place_behind : Stmt := topS 31
abbrev N_place_behind : List Str := ["line", "rank", "low", "high", "middle"]
theorem sc_place_behind : FnScope N_place_behind ["line", "rank"] (defScope s_place_behind) := ⟨rfl, rfl, rfl, by decide +kernel, rfl, by decide +kernel, by decide +kernel⟩
abbrev s_Standing_init : Stmt := inClass (topS 33) 0
abbrev N_Standing_init : List Str := ["self", "form", "_"]
theorem sc_Standing_init : FnScope N_Standing_init ["self", "form"] (defScope s_Standing_init) := ⟨rfl, rfl, rfl, by decide +kernel, rfl, by decide +kernel, by decide +kernel⟩
abbrev s_Standing_form_of : Stmt := inClass (topS 33) 1
abbrev N_Standing_form_of : List Str := ["self"]
theorem sc_Standing_form_of : FnScope N_Standing_form_of ["self"] (defScope s_Standing_form_of) := ⟨rfl, rfl, rfl, by decide +kernel, rfl, by decide +kernel, by decide +kernel⟩
abbrev s_Standing_push : Stmt := inClass (topS 33) 2
abbrev N_Standing_push : List Str := ["self", "number", "queue", "ranks", "path", "node", "items", "rank", "item", "line"]
theorem sc_Standing_push : FnScope N_Standing_push ["self", "number", "queue", "ranks"] (defScope s_Standing_push) := ⟨rfl, rfl, rfl, by decide +kernel, rfl, by decide +kernel, by decide +kernel⟩
abbrev s_Standing_depart : Stmt := inClass (topS 33) 3
abbrev N_Standing_depart : List Str := ["self", "ranks", "node", "rank", "child", "number", "queue"]
theorem sc_Standing_depart : FnScope N_Standing_depart ["self"] (defScope s_Standing_depart) := ⟨rfl, rfl, rfl, by decide +kernel, rfl, by decide +kernel, by decide +kernel⟩
abbrev s_Standing_line_of : Stmt := inClass (topS 33) 4
abbrev N_Standing_line_of : List Str := ["self", "node"]
theorem sc_Standing_line_of : FnScope N_Standing_line_of ["self", "node"] (defScope s_Standing_line_of) := ⟨rfl, rfl, rfl, by decide +kernel, rfl, by decide +kernel, by decide +kernel⟩
abbrev s_Standing_all_lines : Stmt := inClass (topS 33) 5
abbrev N_Standing_all_lines : List Str := ["self"]
theorem sc_Standing_all_lines : FnScope N_Standing_all_lines ["self"] (defScope s_Standing_all_lines) := ⟨rfl, rfl, rfl, by decide +kernel, rfl, by decide +kernel, by decide +kernel⟩
abbrev s_Standing_order : Stmt := inClass (topS 33) 6
abbrev N_Standing_order : List Str := ["self"]
theorem sc_Standing_order : FnScope N_Standing_order ["self"] (defScope s_Standing_order) := ⟨rfl, rfl, rfl, by decide +kernel, rfl, by decide +kernel, by decide +kernel⟩
abbrev s_Standing_lies_at : Stmt := inClass (topS 33) 7
abbrev N_Standing_lies_at : List Str := ["self", "number"]
theorem sc_Standing_lies_at : FnScope N_Standing_lies_at ["self", "number"] (defScope s_Standing_lies_at) := ⟨rfl, rfl, rfl, by decide +kernel, rfl, by decide +kernel, by decide +kernel⟩
abbrev s_Standing_present : Stmt := inClass (topS 33) 8
abbrev N_Standing_present : List Str := ["self"]
theorem sc_Standing_present : FnScope N_Standing_present ["self"] (defScope s_Standing_present) := ⟨rfl, rfl, rfl, by decide +kernel, rfl, by decide +kernel, by decide +kernel⟩
abbrev s_Standing_many_present : Stmt := inClass (topS 33) 9
abbrev N_Standing_many_present : List Str := ["self"]
theorem sc_Standing_many_present : FnScope N_Standing_many_present ["self"] (defScope s_Standing_many_present) := ⟨rfl, rfl, rfl, by decide +kernel, rfl, by decide +kernel, by decide +kernel⟩
abbrev s_Standing_twin : Stmt := inClass (topS 33) 10
abbrev N_Standing_twin : List Str := ["self"]
theorem sc_Standing_twin : FnScope N_Standing_twin ["self"] (defScope s_Standing_twin) := ⟨rfl, rfl, rfl, by decide +kernel, rfl, by decide +kernel, by decide +kernel⟩
abbrev s_Standing_same_as : Stmt := inClass (topS 33) 11
abbrev N_Standing_same_as : List Str := ["self", "other"]
theorem sc_Standing_same_as : FnScope N_Standing_same_as ["self", "other"] (defScope s_Standing_same_as) := ⟨rfl, rfl, rfl, by decide +kernel, rfl, by decide +kernel, by decide +kernel⟩
abbrev s_need_absent : Stmt := topS 34
abbrev N_need_absent : List Str := ["standing", "number"]
theorem sc_need_absent : FnScope N_need_absent ["standing", "number"] (defScope s_need_absent) := ⟨rfl, rfl, rfl, by decide +kernel, rfl, by decide +kernel, by decide +kernel⟩
abbrev s_standing_with : Stmt := topS 35
abbrev N_standing_with : List Str := ["form", "lines", "made", "line", "queue", "node", "entry"]
theorem sc_standing_with : FnScope N_standing_with ["form", "lines"] (defScope s_standing_with) := ⟨rfl, rfl, rfl, by decide +kernel, rfl, by decide +kernel, by decide +kernel⟩
abbrev s_order_at : Stmt := topS 36
abbrev N_order_at : List Str := ["tree", "lines", "node", "kids", "entry", "kid", "orders", "given", "order", "child"]
theorem sc_order_at : FnScope N_order_at ["tree", "lines", "node"] (defScope s_order_at) := ⟨rfl, rfl, rfl, by decide +kernel, rfl, by decide +kernel, by decide +kernel⟩
abbrev s_may_turn : Stmt := topS 38
abbrev N_may_turn : List Str := ["form", "queue", "one", "other", "tree", "here", "there", "pushed", "top", "kids"]
theorem sc_may_turn : FnScope N_may_turn ["form", "queue", "one", "other"] (defScope s_may_turn) := ⟨rfl, rfl, rfl, by decide +kernel, rfl, by decide +kernel, by decide +kernel⟩
abbrev s_law_tape : Stmt := topS 40
abbrev N_law_tape : List Str := ["script", "cell"]
theorem sc_law_tape : FnScope N_law_tape ["script"] (defScope s_law_tape) := ⟨rfl, rfl, rfl, by decide +kernel, rfl, by decide +kernel, by decide +kernel⟩
abbrev s_law_draw : Stmt := topS 41
abbrev N_law_draw : List Str := ["tape", "many", "cell", "pick"]
theorem sc_law_draw : FnScope N_law_draw ["tape", "many"] (defScope s_law_draw) := ⟨rfl, rfl, rfl, by decide +kernel, rfl, by decide +kernel, by decide +kernel⟩
abbrev s_law_form : Stmt := topS 42
abbrev N_law_form : List Str := ["tape", "k", "parts", "single", "turn", "at", "wide"]
theorem sc_law_form : FnScope N_law_form ["tape"] (defScope s_law_form) := ⟨rfl, rfl, rfl, by decide +kernel, rfl, by decide +kernel, by decide +kernel⟩
abbrev s_law_paths : Stmt := topS 43
abbrev N_law_paths : List Str := ["form", "paths", "todo", "turn", "part", "path", "last", "k"]
theorem sc_law_paths : FnScope N_law_paths ["form"] (defScope s_law_paths) := ⟨rfl, rfl, rfl, by decide +kernel, rfl, by decide +kernel, by decide +kernel⟩
abbrev s_law_common : Stmt := topS 44
abbrev N_law_common : List Str := ["one", "other", "k"]
theorem sc_law_common : FnScope N_law_common ["one", "other"] (defScope s_law_common) := ⟨rfl, rfl, rfl, by decide +kernel, rfl, by decide +kernel, by decide +kernel⟩
abbrev s_law_due : Stmt := topS 45
abbrev N_law_due : List Str := ["paths", "queue", "one", "other", "meet", "first"]
theorem sc_law_due : FnScope N_law_due ["paths", "queue", "one", "other"] (defScope s_law_due) := ⟨rfl, rfl, rfl, by decide +kernel, rfl, by decide +kernel, by decide +kernel⟩
abbrev s_law_is : Stmt := topS 46
abbrev N_law_is : List Str := ["told", "due"]
theorem sc_law_is : FnScope N_law_is ["told", "due"] (defScope s_law_is) := ⟨rfl, rfl, rfl, by decide +kernel, rfl, by decide +kernel, by decide +kernel⟩
abbrev s_law_ask : Stmt := topS 47
abbrev N_law_ask : List Str := ["named", "form", "queue", "one", "other", "e"]
theorem sc_law_ask : FnScope N_law_ask ["named", "form", "queue", "one", "other"] (defScope s_law_ask) := ⟨rfl, rfl, rfl, by decide +kernel, rfl, by decide +kernel, by decide +kernel⟩
abbrev s_law_triples : Stmt := topS 48
abbrev N_law_triples : List Str := ["tape", "form", "paths", "many", "rows", "k", "queue", "one", "other"]
theorem sc_law_triples : FnScope N_law_triples ["tape", "form", "paths"] (defScope s_law_triples) := ⟨rfl, rfl, rfl, by decide +kernel, rfl, by decide +kernel, by decide +kernel⟩
abbrev s_law_slots : Stmt := topS 49
abbrev N_law_slots : List Str := ["order", "side", "first", "second", "fresh", "slots", "row", "packet", "told", "at", "slot"]
theorem sc_law_slots : FnScope N_law_slots ["order", "side", "first", "second", "fresh"] (defScope s_law_slots) := ⟨rfl, rfl, rfl, by decide +kernel, rfl, by decide +kernel, by decide +kernel⟩
abbrev s_law_turned : Stmt := topS 50
abbrev N_law_turned : List Str := ["before", "after", "one", "other"]
theorem sc_law_turned : FnScope N_law_turned ["before", "after", "one", "other"] (defScope s_law_turned) := ⟨rfl, rfl, rfl, by decide +kernel, rfl, by decide +kernel, by decide +kernel⟩
abbrev s_law_hop : Stmt := topS 51
abbrev N_law_hop : List Str := ["tape", "form", "paths", "standing", "queues", "k", "order", "early", "late", "one", "other", "meet", "near", "queue", "side", "ranks", "fresh", "held", "told", "due", "between"]
theorem sc_law_hop : FnScope N_law_hop ["tape", "form", "paths", "standing", "queues"] (defScope s_law_hop) := ⟨rfl, rfl, rfl, by decide +kernel, rfl, by decide +kernel, by decide +kernel⟩
abbrev s_law_hops : Stmt := topS 52
abbrev N_law_hops : List Str := ["tape", "form", "paths", "standing", "k", "queues", "turn"]
theorem sc_law_hops : FnScope N_law_hops ["tape", "form", "paths"] (defScope s_law_hops) := ⟨rfl, rfl, rfl, by decide +kernel, rfl, by decide +kernel, by decide +kernel⟩
abbrev s_law_rank : Stmt := topS 53
abbrev N_law_rank : List Str := ["tape", "manner", "k"]
theorem sc_law_rank : FnScope N_law_rank ["tape", "manner"] (defScope s_law_rank) := ⟨rfl, rfl, rfl, by decide +kernel, rfl, by decide +kernel, by decide +kernel⟩
abbrev s_law_pushes : Stmt := topS 54
abbrev N_law_pushes : List Str := ["tape", "form", "paths", "standing", "manner", "k", "queues", "turn", "ranks", "asked", "before", "queue", "step", "after", "j", "key"]
theorem sc_law_pushes : FnScope N_law_pushes ["tape", "form", "paths"] (defScope s_law_pushes) := ⟨rfl, rfl, rfl, by decide +kernel, rfl, by decide +kernel, by decide +kernel⟩
abbrev s_law_refused : Stmt := topS 55
abbrev N_law_refused : List Str := ["form", "many", "bad", "named"]
theorem sc_law_refused : FnScope N_law_refused ["form", "many"] (defScope s_law_refused) := ⟨rfl, rfl, rfl, by decide +kernel, rfl, by decide +kernel, by decide +kernel⟩
abbrev s_law : Stmt := topS 56
abbrev N_law : List Str := ["script", "tape", "form", "paths"]
theorem sc_law : FnScope N_law ["script"] (defScope s_law) := ⟨rfl, rfl, rfl, by decide +kernel, rfl, by decide +kernel, by decide +kernel⟩
end K27
set_option Elab.async false
set_option linter.all false
set_option maxRecDepth 100000
set_option maxHeartbeats 2000000
namespace K27
open PySem PySem.Spec PyProof.Rows L2

/-! ### kinds of values -/
/-- the kinds that come: by the name of the type -/
def KindV (K : PySem.W.Frag) (H : Hp) (x : V) (t : String) : Prop := TyX K H x (.type t) ∧ (t = "int" ∨ t = "bool" ∨ t = "NoneType" ∨ t = "str" ∨ t = "tuple" ∨ t = "list")
/-- a value seen as an integer, or none -/
def NumV (K : PySem.W.Frag) (H : Hp) (x : V) : Option Int → Prop
  | some i => x = .int i
  | none => ∃ t, KindV K H x t ∧ t ≠ "int"
theorem kind_int {K : PySem.W.Frag} {H : Hp} (i : Int) : KindV K H (.int i) "int" := ⟨.base (.int i), .inl rfl⟩
theorem kind_bl {K : PySem.W.Frag} {H : Hp} (b : Bool) : KindV K H (.bl b) "bool" := ⟨.base (.bl b), .inr (.inl rfl)⟩
theorem kind_non {K : PySem.W.Frag} {H : Hp} : KindV K H .non "NoneType" := ⟨.base .non, .inr (.inr (.inl rfl))⟩
theorem kind_str {K : PySem.W.Frag} {H : Hp} (s : Str) : KindV K H (.str s) "str" := ⟨.base (.str s), .inr (.inr (.inr (.inl rfl)))⟩
theorem kind_tup {K : PySem.W.Frag} {H : Hp} {a : Addr} {xs : List V} (h : H a = some (.tup xs)) : KindV K H (.ref a) "tuple" := ⟨.base (.tup h), .inr (.inr (.inr (.inr (.inl rfl))))⟩
theorem kind_lst {K : PySem.W.Frag} {H : Hp} {a : Addr} {xs : List V} (h : H a = some (.lst xs)) : KindV K H (.ref a) "list" := ⟨.base (.lst h), .inr (.inr (.inr (.inr (.inr rfl))))⟩
theorem kit_int {t : String} (h : t = "int" ∨ t = "bool" ∨ t = "NoneType" ∨ t = "str" ∨ t = "tuple" ∨ t = "list") : kitB t "int" = some (t == "int" || t == "bool") := by
  rcases h with rfl | rfl | rfl | rfl | rfl | rfl <;> decide +kernel
theorem kit_bool {t : String} (h : t = "int" ∨ t = "bool" ∨ t = "NoneType" ∨ t = "str" ∨ t = "tuple" ∨ t = "list") : kitB t "bool" = some (t == "bool") := by
  rcases h with rfl | rfl | rfl | rfl | rfl | rfl <;> decide +kernel
theorem kit_tup {t : String} (h : t = "int" ∨ t = "bool" ∨ t = "NoneType" ∨ t = "str" ∨ t = "tuple" ∨ t = "list") : kitB t "tuple" = some (t == "tuple") := by
  rcases h with rfl | rfl | rfl | rfl | rfl | rfl <;> decide +kernel
theorem kit_str {t : String} (h : t = "int" ∨ t = "bool" ∨ t = "NoneType" ∨ t = "str" ∨ t = "tuple" ∨ t = "list") : kitB t "str" = some (t == "str") := by
  rcases h with rfl | rfl | rfl | rfl | rfl | rfl <;> decide +kernel
abbrev tIsi (K : PySem.W.Frag) (i : Nat) (c : String) : TE := tCB (rIsi K) (tCons (tVar i) (tCons (tC (.ty c)) tNil))
theorem isi_read {K : PySem.W.Frag} {σ : L2.St} {H : Hp} {i : Nat} {x : V} {c t : String} {b : Bool} {Q : VK} (hσ : σ[i]? = some (some x)) (ht : TyX K H x (.type t)) (hk : kitB t c = some b) (q : Q (.bl b) H) : tIsi K i c σ H Q :=
  ⟨x, hσ, x, .ty c, .type t, .type c, b, rfl, .ty c, ht, kit_ty hk, q⟩
/-! ### the top's facts -/
structure Txt (K : PySem.W.Frag) (mg : Str → Option Value) : Prop where
  isinstance : mg "isinstance" = none
  int : mg "int" = none
  bool : mg "bool" = none
  tuple : mg "tuple" = none
  str : mg "str" = none
  len : mg "len" = none
  range : mg "range" = none
  enumerate : mg "enumerate" = none
  sorted : mg "sorted" = none
  all : mg "all" = none
  min : mg "min" = none
  list : mg "list" = none
section
variable {P : Program} {w : World} {K : PySem.W.Frag} {mg : Str → Option Value} {base : Heap}
/-! ### is_integer, is_number, is_below -/
def spInteger (K : PySem.W.Frag) : Sp := fun vs H Q _ => ∃ x o, vs = [x] ∧ NumV K H x o ∧ Q (.bl o.isSome) H
theorem ok_is_integer {f : Addr} {fd : FuncData} (F : Fun K "is_integer" "is_integer" s_is_integer f fd) (T : Txt K mg) : FnOk P w K mg base CX0 1 f fd ["thing"] (spInteger K) := by
  refine F.ok sc_is_integer (fun vs H Q E h => ?_) (fun cdv A outer s H vs Q E hr h => ?_)
  · obtain ⟨x, o, rfl, _⟩ := h
    rfl
  obtain ⟨x, o, rfl, hx, q⟩ := h
  refine ⟨_, pss_one (ps_ret (pe_and (pe_callB call_isi (by rfl) T.isinstance boot_isinstance (pa_cons (pv 0) (pa_cons (pe_bltn (v := .ty "int") (by rfl) T.int boot_int rfl) pa_nil)))
    (pe_one (pe_not (pe_callB call_isi (by rfl) T.isinstance boot_isinstance (pa_cons (pv 0) (pa_cons (pe_bltn (v := .ty "bool") (by rfl) T.bool (by decide +kernel) rfl) pa_nil))))))), ?_⟩
  cases o with
  | some i =>
    obtain rfl : x = .int i := hx
    refine isi_read rfl (kind_int i).1 (kit_int (kind_int (K := K) (H := H) i).2) ⟨_, rfl, ?_⟩
    refine iteT ?_
    exact isi_read rfl (kind_int i).1 (kit_bool (kind_int (K := K) (H := H) i).2) ⟨_, rfl, q⟩
  | none =>
    obtain ⟨t, ht, hn⟩ := hx
    refine isi_read rfl ht.1 (kit_int ht.2) ⟨_, rfl, ?_⟩
    have e1 : (t == "int") = false := by simpa using hn
    rw [e1, Bool.false_or]
    cases e2 : (t == "bool") with
    | false => exact iteF q
    | true =>
      refine iteT ?_
      refine isi_read rfl ht.1 (kit_bool ht.2) ⟨_, rfl, ?_⟩
      rw [e2]
      exact q
end
end K27
set_option Elab.async false
set_option linter.all false
set_option maxRecDepth 100000
set_option maxHeartbeats 4000000
namespace L2
open PySem PySem.Spec PyProof.Rows
/-! ### a def by its name, with what it promises -/
structure DefAt (K : PySem.W.Frag) (mg : Str → Option Value) (x : Str) (st : Stmt) (ps : List Str) : Prop where
  ex : ∃ (f : Addr) (fd : FuncData), Fun K x x st f fd ∧ mg x = some (.ref f) ∧ Binds K fd ps []
/-- the function's own object -/
def LkF (K : PySem.W.Frag) (f : Addr) (fd : FuncData) : Prop := ∃ (oc : Value) (od : Option Addr) (osl : Array (Option Value)), K.lookup f = some ⟨oc, od, .func fd, osl⟩
theorem LkF.inj {K : PySem.W.Frag} {f : Addr} {fd fd' : FuncData} (a : LkF K f fd) (b : LkF K f fd') : fd = fd' := by
  obtain ⟨oc, od, osl, h⟩ := a
  obtain ⟨oc', od', osl', h'⟩ := b
  rw [h] at h'
  injection h' with h'
  injection h' with _ _ h' _
  injection h'
theorem fun_lk {K : PySem.W.Frag} {x q : Str} {st : Stmt} {f : Addr} {fd : FuncData} (F : Fun K x q st f fd) : LkF K f fd := by
  obtain ⟨oc, od, kV, doc, pm, an, cdv, ct, osl, rfl, lk, _⟩ := F.ex
  exact ⟨oc, od, osl, lk⟩
structure CalX (P : Program) (w : World) (K : PySem.W.Frag) (mg : Str → Option Value) (base : Heap) (CX : CXT) (k : Nat) (x : Str) (ps : List Str) (sp : Sp) : Prop where
  ex : ∃ (f : Addr) (fd : FuncData), FnOk P w K mg base CX k f fd ps sp ∧ mg x = some (.ref f) ∧ PySem.W.keepIn K (.ref f) = true ∧ Binds K fd ps [] ∧ LkF K f fd
section
variable {P : Program} {w : World} {K : PySem.W.Frag} {mg : Str → Option Value} {base : Heap} {x : Str} {st : Stmt} {N ps : List Str} {k j : Nat} {sp : Sp} {CX : CXT}
theorem CalX.mono (c : CalX P w K mg base CX k x ps sp) (h : k ≤ j) : CalX P w K mg base CX j x ps sp := by
  obtain ⟨f, fd, F, a, b, d⟩ := c.ex
  exact ⟨f, fd, F.mono h, a, b, d⟩
theorem DefAt.ok (D : DefAt K mg x st ps) (S : FnScope N ps (defScope st)) (len : ∀ vs H Q E, sp vs H Q E → vs.length = ps.length)
    (hbody : ∀ (f : Addr) (cdv : Value) (A : Around) (outer : List Env) (s : Shared) (H : Hp) (vs : List V) (Q : VK) (E : XK), Room k (A.deeper (envOfC x (defScope st) s.heap.objs.size f cdv)) → sp vs H Q E →
      ∃ t, PSs (cxOf CX0 P w K mg base N x (defScope st) f cdv A outer s H E).nox (defBody st) t ∧ t { nx := fun _ H' => Q .non H', rt := Q } (start N vs) H) : CalX P w K mg base CX0 (k + 1) x ps sp := by
  obtain ⟨f, fd, F, m, b⟩ := D.ex
  exact ⟨f, fd, F.ok S len (hbody f), m, F.kp, b, fun_lk F⟩
end
/-! a def that may raise -/
section
variable {P : Program} {w : World} {K : PySem.W.Frag} {mg : Str → Option Value} {base : Heap} {x : Str} {st : Stmt} {N ps : List Str} {k j : Nat} {sp : Sp}
theorem DefAt.okX (D : DefAt K mg x st ps) (S : FnScope N ps (defScope st)) (len : ∀ vs H Q E, sp vs H Q E → vs.length = ps.length)
    (hbody : ∀ (f : Addr) (cdv : Value) (A : Around) (outer : List Env) (s : Shared) (H : Hp) (vs : List V) (Q : VK) (E : XK), Room k (A.deeper (envOfC x (defScope st) s.heap.objs.size f cdv)) → sp vs H Q E →
      ∃ t, PSs (cxOf (L2.CX P w) P w K mg base N x (defScope st) f cdv A outer s H E) (defBody st) t ∧ t { nx := fun _ H' => Q .non H', rt := Q } (start N vs) H) : CalX P w K mg base (L2.CX P w) (k + 1) x ps sp := by
  obtain ⟨f, fd, F, m, b⟩ := D.ex
  exact ⟨f, fd, F.okX S len (hbody f), m, F.kp, b, fun_lk F⟩
end
section
variable {X : Cx} {CX : CXT} {j k : Nat} {x : Str} {ps : List Str} {sp : Sp} {E : XK} {p pos : Pos} {e : Expr} {es : List Expr} {t : TA}
theorem pe_cx (c : CalX X.prog X.w X.K X.mg X.base CX k x ps sp) (hr : Room j X.A) (hk : k ≤ j) (hg : Gl X x) (hx : Passes CX X E) (ha : PA X (e :: es) t)
    (hdb : (x == ("__debug__" : Str)) = false := by decide) (he : starEach (e :: es) X.env = (false, eval e X.env) :: starEach es X.env := by rfl) (hpl : (backTo pos (starEach es X.env)).any (·.1) = false := by rfl) :
    PE X (.Call (.Name x p) (e :: es) [] pos) (tCall sp [] E t) := by
  obtain ⟨f, fd, F, hm, kp, b, _⟩ := c.ex
  exact pe_call F (hr.mono hk) hg hm kp b .nil hx ha hdb he hpl
/-- a callee that lets nothing out -/
theorem pe_c0 (c : CalX X.prog X.w X.K X.mg X.base CX0 k x ps sp) (hr : Room j X.A) (hk : k ≤ j) (hg : Gl X x) (ha : PA X (e :: es) t)
    (hdb : (x == ("__debug__" : Str)) = false := by decide) (he : starEach (e :: es) X.env = (false, eval e X.env) :: starEach es X.env := by rfl) (hpl : (backTo pos (starEach es X.env)).any (·.1) = false := by rfl) :
    PE X (.Call (.Name x p) (e :: es) [] pos) (tCall sp [] E0 t) := pe_cx c hr hk hg pass0 ha hdb he hpl
end
/-! ### xs.extend(t), t a tuple -/
theorem list_extend_tup (l : Addr) (items : Array Value) (n : Nat) (b : Addr) (ob : Obj) (items2 : Array Value) (n2 : Nat) (hs0 : ¬(!items.isEmpty && Builtin.List.listTooLong (items.size + items2.size)) = true) (hs1 : items.size ≤ sizeLine) (hs2 : items.size + items2.size ≤ sizeLine + 1) :
    Meets (Builtin.«list.extend» ⟨[.ref l, .ref b], []⟩) (fun _ R s => s.heap.get? l = some { cls := .type "list", dict := none, data := .seq items n, slots := #[] } ∧ s.heap.get? b = some ob ∧ ob.cls = .type "tuple" ∧ ob.data = .seq items2 n2 ∧ R (.ok (.ret Value.none)) { s with heap := s.heap.update l (Obj.mapSeq fun x => x ++ items2), toks := s.toks }) :=
  .of_wp fun prog w A R s h => by
    obtain ⟨hp, g, d, tk, os⟩ := s
    obtain ⟨hl, hb, hc, hd, h⟩ := h
    have hz' : (items ++ items2).size ≤ sizeLine + 1 := by rw [Array.size_append]; exact hs2
    show wpAny _ A.in1 (Builtin.List.listExtendWith (.ref l) (.ref b) .none) _ _ _
    unfold Builtin.List.listExtendWith
    refine wpAny_bind (wpAny_typeOf ⟨ob, hb, hc⟩ ?_)
    have h1 : (Builtin.List.listSameRef (.ref l) (.ref b) || Value.type "tuple" == Value.type "list" || Value.type "tuple" == Value.type "tuple") = true := by simp
    simp only [h1, if_true]
    refine wpAny_bind ?_
    unfold Builtin.List.listItems
    refine wpAny_bind (wpAny_seqItems hb hd (wpAny_pure ?_))
    refine wpAny_bind ?_
    refine wpAny_bind (wpAny_seqItems hl rfl (wpAny_pure ?_))
    simp only [hs0]
    show wpAny _ A.in1 (updateSeq l (· ++ items2) >>= fun _ => ret .none) _ _ _
    refine wpAny_bind (wpAny_updateSeq hl rfl ?_ hs1 hz')
    exact wpAny_pure ⟨_, rfl, h⟩
section
variable {X : Cx}
def rExtendT (K : PySem.W.Frag) : V → List V → Hp → VK → Prop := fun x vs H Q => ∃ l b xs zs, x = .ref l ∧ vs = [.ref b] ∧ H l = some (.lst xs) ∧ SqT K H b zs ∧ xs.length + zs.length ≤ sizeLine ∧ Q .non (upd H l (.lst (xs ++ zs)))
theorem mt_extendT : MtM X "list.extend" (rExtendT X.K) := by
  intro pins s σ H x vs v us Q I rx rv h
  obtain ⟨l, b, xs, zs, rfl, rfl, hH, hB, hz, q⟩ := h
  cases rx
  obtain ⟨u, rfl, ru⟩ := rv.one
  cases ru
  obtain ⟨z, its, n, r, hl, e⟩ := I.lstM hH
  obtain ⟨its2, r2, pl, z2⟩ := I.tuple hB
  obtain ⟨o2, e2, hc2, n2, hd2⟩ := pl
  have hl2 := r2.length
  have hsz : its.toArray.size + its2.toArray.size ≤ sizeLine := by rw [List.size_toArray, List.size_toArray]; omega
  have hlong : ¬ (!its.toArray.isEmpty && Builtin.List.listTooLong (its.toArray.size + its2.toArray.size)) = true := by
    rw [notLongL hsz, Bool.and_false]
    exact Bool.false_ne_true
  refine call_meets F.slot_list_extend ⟨_, e, rfl⟩ F.entry_list_extend (F.args_list_extend_2 _ _)
    (list_extend_tup l its.toArray n b o2 its2.toArray n2 hlong (by rw [List.size_toArray]; omega) (by omega)) ⟨e, e2, hc2, hd2, ?_⟩
  refine ⟨.non, _, I.lset (its' := its ++ its2) hH e (by simp) (r.append r2) ?_, rfl, q⟩
  rw [List.length_append]
  omega
end
/-! ### o.m(k = v, ..): keywords alone -/
def tMethK (C : Addr) (m : Str) (sp : Sp) (n : Nat) (gV : List V → List V) (E : XK) (ta : TE) (tk : TA) : TE := fun σ H Q => ta σ H fun x H1 => ∃ a dx fs, x = .ref a ∧ H1 a = some (.ins C dx fs) ∧ fs.lookup m = none ∧
  tk σ H1 fun zs H2 => zs.length = n ∧ sp (x :: gV zs) H2 Q E
structure KwB (fd : FuncData) (ps ks : List Str) (g : {α : Type} → List α → List α) : Prop where
  to : ∀ (s : Shared) (u : Value) (ws : List Value), ws.length = ks.length → BindsTo s fd ⟨[u], ks.zip ws⟩ (ps.zip (u :: g ws))
  rel : ∀ {zs : List V} {ws : List Value}, Vals zs ws → Vals (g zs) (g ws)
section
variable {X : Cx} {CX : CXT} {k : Nat} {f C : Addr} {fd : FuncData} {ps ks : List Str} {sp : Sp} {E : XK} {x m : Str} {p pos apos : Pos} {o : Expr} {kws : List Keyword} {ta : TE} {tk : TA} {g : {α : Type} → List α → List α}
theorem run_kw {pins : List (Addr × Obj)} {σ : St} {H : Hp} {s : Shared} {Q : VK} {u : Value} {ws : List Value} {v : V} {zs : List V} (F : FnOk X.prog X.w X.K X.mg X.base CX k f fd ps sp) (hr : Room k X.A) (hb : KwB fd ps ks g) (hx : Passes CX X E)
    (I : Inv X pins σ H s) (r : RelV v u) (rz : Vals zs ws) (hl : zs.length = ks.length) (h : sp (v :: g zs) H Q E) : wpAny (model X.prog X.w) X.A (call (.ref f) [u] (ks.zip ws)) (EP X pins σ Q) X.xe s := by
  have r2 : Vals (v :: g zs) (u :: g ws) := .cons r (hb.rel rz)
  refine wpAny_call (codeAny_mono (F.run X.A X.stack s H ⟨[u], ks.zip ws⟩ (u :: g ws) (v :: g zs) Q E hr I.env0 (hb.to s u ws (rz.length.symm.trans hl)) r2 h) fun r s' hq => ?_)
  cases r with
  | error e => exact hx pins σ H s e s' I hq
  | ok fl =>
    cases fl with
    | ret u => exact I.after hq
    | next => exact False.elim hq
    | brk => exact False.elim hq
    | cont => exact False.elim hq
theorem pe_methK {pl : Sem Bool} (he : PE X o ta) (c : Cls X.K C) (hm : Meth X.K C m f) (F : FnOk X.prog X.w X.K X.mg X.base CX k f fd ps sp) (hr : Room k X.A) (hb : KwB fd ps ks g) (hx : Passes CX X E) (hkw : PK X kws tk)
    (ht : eval (.Call (.Attribute o m apos) [] kws pos) X.env = (do
      let ov ← eval o X.env
      standAt apos.atName
      let (f, first) ← holding [ov] (getMethod ov m pl)
      callWith pos f first (backTo pos (starEach [] X.env)) (backToKw pos (keywordEach kws X.env))) := by rfl)
    (hall : (backToKw pos (keywordEach kws X.env)).all (·.1.isSome) = true := by rfl) (hks : (backToKw pos (keywordEach kws X.env)).filterMap (·.1) = ks := by rfl)
    (hpl : ((backTo pos (starEach [] X.env)).any (·.1) || (backToKw pos (keywordEach kws X.env)).any (·.1.isNone)) = false := by rfl) :
    PE X (.Call (.Attribute o m apos) [] kws pos) (tMethK C m sp ks.length g E ta tk) := by
  refine ⟨fun pins s σ H Q I h => ?_⟩
  refine PySem.W.methodCall_KW (pl := pl) (thn (he.run pins s σ H _ I h) fun u s1 ⟨x, H1, I1, rx, a, dx, fs, ex, ea, l, q⟩ => ?_) ht
  subst ex
  obtain rfl : u = Value.ref a := rx
  refine getmeth_ok I1 ea c hm l ?_
  refine PySem.W.callWith_KW0 (first := [.ref a]) (h₀ := X.base) I.ok.mod.kin hm.kp hall ?_ hpl
  refine thn (hkw.run pos pins s1 σ H1 _ I1 q) fun ws s2 ⟨zs, H2, I2, rz, hl, q2⟩ => ⟨I2.kIn, ?_⟩
  rw [hks]
  exact run_kw (v := .ref a) F hr hb hx I2 (show RelV (V.ref a) (Value.ref a) from rfl) rz hl q2
end
/-! ### try: .. except C as n: ..; except ..: .. where only the first clause is met -/
def wAs1 (K : PySem.W.Frag) (c : Value) (i : Nat) (ts : Addr → Value → Option Addr → TS) (D : Ends) : WX := fun cls d σ H =>
  PySem.W.exmOne K cls c = some true ∧ ∀ a, H a = none → ts a cls d { nx := fun σ' H' => D.nx (σ'.set i none) H', rt := D.rt, bk := fun σ' H' => D.bk (σ'.set i none) H', ct := fun σ' H' => D.ct (σ'.set i none) H' } (σ.set i (some (.ref a))) H
section
variable {X : Cx} {x n : Str} {c : Value} {i : Nat} {body suite : List Stmt} {b₀ : Stmt} {np pos pos' : Pos} {hds : List ExceptHandler} {tb : WX → TS} {ts : Addr → Value → Option Addr → TS}
theorem ps_try_as2 (hs : X.stack = X.env :: X.outer) (hf : X.env.frame = some X.env.locals) (hN : X.N.Nodup) (hi : X.N[i]? = some n) (hln : X.env.kindOf n = some .local) (hc : Names X x c)
    (hb : ∀ (W : WX) (pn : List (Addr × Obj)) (xe : Value → Shared → Prop), Takes (X.tr pn xe) W → PassesOwn (model X.prog X.w) X.A X.env xe → PSs (X.tr pn xe) body (tb W))
    (hsu : ∀ (a : Addr) (oe : Obj) (cls : Value) (d : Option Addr) (pn : List (Addr × Obj)), Zc cls d oe → (∃ vs, oe.data = .fields vs) → PSs (X.suite a ((a, oe) :: pn)) (b₀ :: suite) (ts a cls d)) :
    PS X (.Try body (.ExceptHandler (some (.Name x np)) (some n) (b₀ :: suite) pos' :: hds) [] [] pos) (fun D σ H => tb (wAs1 X.K c i ts D) D σ H) := by
  refine ⟨fun pins s σ H D I h => ?_⟩
  have ok := I.ok
  have hfr : X.A.frames = some (X.env :: X.outer) := by rw [ok.frames, hs]
  have hloc : Loc X.env.scope n := .inl hln
  refine wpAny_Try_except ?_
  refine wpAny_mono ((hb (wAs1 X.K c i ts D) (X.pn ++ pins) (fun e s₁ => wpAny (model X.prog X.w) X.A (noteFrame e X.env) (fun _ s₂ => wpAny (model X.prog X.w) X.A (setFlight e none) (fun _ s₃ =>
    wpAny (model X.prog X.w) X.A (handleBy e X.env (.ExceptHandler (some (.Name x np)) (some n) (b₀ :: suite) pos' :: hds)) (SP X pins D) X.xe s₃) X.xe s₂) X.xe s₁) (fun u s' xx => ?_) PassesOwn.looking).run [] s σ H D (I.toTry _) h) (fun f s1 hsp => ?_) (fun e s1 he => he)
  · obtain ⟨a, B, sI, pins', σ', H', cls, d, rfl, J', nb, up, sky, na, os, ag, hb1, hyes⟩ := xx
    have J : Inv X pins σ' H' sI := J'.ofTry ok
    have sky' : Sky B (X.env :: X.outer) a (Zc cls d) X.env.locals s'.heap := by rw [← hs]; exact sky
    show wpAny (model X.prog X.w) X.A (noteFrame (.ref a) X.env) _ _ _
    refine Sky.land Zc.steady hfr hf sky' fun h3 fl3 up3 => ?_
    have J3 : Inv X pins σ' H' { s' with heap := h3 } := J.landed nb fl3.1 (up.trans up3) os ag
    obtain ⟨oe3, vs3, he3, hz3, hd3⟩ := fl3.there
    have notFr : ∀ {h : Heap} {o : Obj} {vs : Array Value}, h.FunFrames B (X.env :: X.outer) → h.get? a = some o → o.data = .fields vs → a ∉ frs (X.env :: X.outer) := fun {h o vs} ff e dd hm => by
      obtain ⟨_, o', e', hnf⟩ := ff.mem hm
      rw [e] at e'; cases e'
      exact hnf _ dd
    have nfr := notFr fl3.2.2.1 he3 hd3
    have nL : a ≠ X.env.locals := fun z => nfr (List.mem_filterMap.mpr ⟨X.env, List.mem_cons_self, by rw [hf, z]⟩)
    have nF : a ∉ X.fs := fun hm => by
      obtain ⟨e, he, q⟩ := List.mem_filterMap.mp hm
      exact nfr (List.mem_filterMap.mpr ⟨e, List.mem_cons_of_mem _ he, q⟩)
    have S3 := J3.suite he3 hd3 na nL nF
    refine wpAny_handleBy_cons (codeAny_handlers_test ?_) (by intro q; cases q)
    have LT : PySem.W.Looks (model X.prog X.w) h3 (typeOf (.ref a)) cls := fun A Q E s k q => wpAny_typeOf_ref (k _ _ he3) (by rw [hz3.1]; exact q)
    have LM := PySem.W.exm_one (M := model X.prog X.w) (J3.kIn) LT hb1
    have test : ∀ {Q : Value → Shared → Prop} {E : Value → Shared → Prop}, Q c { s' with heap := h3 } → wpAny (model X.prog X.w) (X.A.mark (some (.ref a))) (eval (.Name x np) X.env) Q E { s' with heap := h3 } := fun {Q E} q => by
      obtain ⟨hg, hdbg, hm | ⟨hm, hv, hnn⟩⟩ := hc
      · exact ld_glob (X := X.suite a ((a, oe3) :: (X.pn ++ pins))) S3 hg hm q hdbg
      · exact ld_blt (X := X.suite a ((a, oe3) :: (X.pn ++ pins))) S3 hg hm hv q hnn hdbg
    refine test (LM.here ?_)
    refine codeAny_handlers_suite_as ?_
    refine HandSPX.lands_againZ fl3 fun h4 fl4 up4 => ?_
    have J4 : Inv X pins σ' H' { s' with heap := h4 } := J.landed nb fl4.1 ((up.trans up3).trans up4) os ag
    obtain ⟨oe4, vs4, he4, hz4, hd4⟩ := fl4.there
    have S4 := J4.suite he4 hd4 na nL nF
    refine store_ok (X := X.suite a ((a, oe4) :: (X.pn ++ pins))) (v := .ref a) S4 hN hi hloc rfl (fun s5 S5 => ?_) (.inr hln)
    refine wpAny_mono ((hsu a oe4 cls d (X.pn ++ pins) hz4 ⟨_, hd4⟩).run [] s5 _ H' _ S5 (hyes a na)) (fun f s6 hsp => ?_) (fun _ _ z => False.elim z)
    have end_ : ∀ {σ6 : St} {H6 : Hp} {Q : Shared → Prop}, Inv (X.suite a ((a, oe4) :: (X.pn ++ pins))) [] σ6 H6 s6 → (∀ s7, Inv X pins (σ6.set i none) H6 s7 → Q s7) →
        wpAny (model X.prog X.w) X.A (do bindName X.env n .none; unbindBehindTheSuite X.env n pos') (fun _ s7 => Q s7) X.xe s6 := fun {σ6 H6 Q} S6 hq => gone_ok (S6.unsuite ok) hN hi hln hq
    cases f with
    | next =>
      obtain ⟨σ6, H6, S6, q6⟩ := hsp
      exact end_ S6 fun s7 J7 => ⟨_, _, J7, q6⟩
    | brk =>
      obtain ⟨σ6, H6, S6, q6⟩ := hsp
      exact end_ S6 fun s7 J7 => ⟨_, _, J7, q6⟩
    | cont =>
      obtain ⟨σ6, H6, S6, q6⟩ := hsp
      exact end_ S6 fun s7 J7 => ⟨_, _, J7, q6⟩
    | ret u =>
      obtain ⟨v6, σ6, H6, S6, r6, q6⟩ := hsp
      exact end_ S6 fun s7 J7 => ⟨_, _, _, J7, r6, q6⟩
  · cases f with
    | next =>
      obtain ⟨σ', H', J', q⟩ := hsp
      exact wpAny_execs_nil ⟨σ', H', J'.ofTry ok, q⟩
    | brk =>
      obtain ⟨σ', H', J', q⟩ := hsp
      exact ⟨σ', H', J'.ofTry ok, q⟩
    | cont =>
      obtain ⟨σ', H', J', q⟩ := hsp
      exact ⟨σ', H', J'.ofTry ok, q⟩
    | ret u =>
      obtain ⟨v, σ', H', J', r, q⟩ := hsp
      exact ⟨v, σ', H', J'.ofTry ok, r, q⟩
end
end L2
set_option Elab.async false
set_option linter.all false
set_option maxRecDepth 100000
set_option maxHeartbeats 4000000
namespace K27
open PySem PySem.Spec PyProof.Rows L2
/-- the class NotUsable at U, its __init__ at fI -/
structure NUT (K : PySem.W.Frag) (mg : Str → Option Value) (U fI : Addr) : Prop where
  gU : mg "NotUsable" = some (.ref U)
  ox : OexC K U
  xf : XfC K U
  nw : PySem.W.findIn K (.ref U) "word" = some none
  na : PySem.W.findIn K (.ref U) "at" = some none
  iC : PySem.W.findIn K (.ref U) "__init__" = some (some (.ref fI))
  tI : PySem.W.typeIn K (.ref fI) = some (.type "function")
  te : PySem.W.exmOne K (.ref U) (.ref U) = some true
  fn : ∃ fd, Fun K "__init__" "NotUsable.__init__" s_NotUsable_init fI fd ∧ Binds K fd ["self", "word", "at"] []
section
variable {P : Program} {w : World} {K : PySem.W.Frag} {mg : Str → Option Value} {base : Heap} {U fI : Addr}
/-! ### NotUsable.__init__ -/
def hInit (U a dx : Addr) (z : Str) (i : Int) (H : Hp) : Hp := upd (upd (upd H dx (exd dx [("word", .str z)])) a (exo a U (some dx))) dx (exd dx [("at", .int i), ("word", .str z)])
def spNU (U : Addr) : Sp := fun vs H Q _ => ∃ (a : Addr) (z : Str) (i : Int), vs = [.ref a, .str z, .int i] ∧ H a = some (exo a U none) ∧ ∀ dx, H dx = none → dx ≠ a → Q .non (hInit U a dx z i H)
theorem ok_nu (T : NUT K mg U fI) : ∃ fd, FnOk P w K mg base CX0 1 fI fd ["self", "word", "at"] (spNU U) ∧ Binds K fd ["self", "word", "at"] [] := by
  obtain ⟨fd, F, b⟩ := T.fn
  refine ⟨fd, F.ok sc_NotUsable_init (fun vs H Q E h => ?_) (fun cdv A outer s H vs Q E hr h => ?_), b⟩
  · obtain ⟨a, z, i, rfl, _⟩ := h
    rfl
  obtain ⟨a, z, i, rfl, ha, q⟩ := h
  refine ⟨_, pss_cons (ps_ost (pv 0) (pv 1)) (pss_one (ps_ost (pv 0) (pv 2))), ?_⟩
  refine ⟨_, rfl, _, rfl, a, U, rfl, T.ox, T.nw, .inl ⟨ha, fun dx hdx hne => ?_⟩⟩
  refine ⟨_, rfl, _, rfl, a, U, rfl, T.ox, T.na, .inr ⟨dx, [("word", .str z)], upd_same, ?_, (by show 1 ≤ 900; decide), ?_⟩⟩
  · rw [upd_ne hne, upd_same]
  · exact q dx hdx hne
/-! ### is_integer, is_number, is_below -/
theorem ok_integer (D : DefAt K mg "is_integer" s_is_integer ["thing"]) (T : Txt K mg) : CalX P w K mg base CX0 1 "is_integer" ["thing"] (spInteger K) := by
  obtain ⟨f, fd, F, m, b⟩ := D.ex
  exact ⟨f, fd, ok_is_integer F T, m, F.kp, b, fun_lk F⟩
def numB : Option Int → Bool
  | some i => decide (0 ≤ i)
  | none => false
def spNumber (K : PySem.W.Frag) : Sp := fun vs H Q _ => ∃ x o, vs = [x] ∧ NumV K H x o ∧ Q (.bl (numB o)) H
theorem ok_number (D : DefAt K mg "is_number" s_is_number ["thing"]) (GI : CalX P w K mg base CX0 1 "is_integer" ["thing"] (spInteger K)) : CalX P w K mg base CX0 2 "is_number" ["thing"] (spNumber K) := by
  refine D.ok sc_is_number (fun vs H Q E h => ?_) (fun f cdv A outer s H vs Q E hr h => ?_)
  · obtain ⟨x, o, rfl, _⟩ := h
    rfl
  obtain ⟨x, o, rfl, hx, q⟩ := h
  refine ⟨_, pss_one (ps_ret (pe_and (pe_c0 GI hr (by decide) rfl (pa_cons (pv 0) pa_nil)) (pe_one (pe_cmpR op_ge (pv 0) pe_int (nomark _))))), ?_⟩
  refine ⟨_, rfl, x, o, rfl, hx, _, rfl, ?_⟩
  cases o with
  | none => exact iteF q
  | some i =>
    obtain rfl : x = .int i := hx
    exact iteT ⟨_, rfl, _, _, rfl, rfl, q⟩
def belowB (n : Int) : Option Int → Bool
  | some i => decide (0 ≤ i) && decide (i < n)
  | none => false
def spBelow (K : PySem.W.Frag) : Sp := fun vs H Q _ => ∃ (x : V) (o : Option Int) (n : Int), vs = [x, .int n] ∧ NumV K H x o ∧ Q (.bl (belowB n o)) H
theorem ok_below (D : DefAt K mg "is_below" s_is_below ["thing", "bound"]) (GN : CalX P w K mg base CX0 2 "is_number" ["thing"] (spNumber K)) : CalX P w K mg base CX0 3 "is_below" ["thing", "bound"] (spBelow K) := by
  refine D.ok sc_is_below (fun vs H Q E h => ?_) (fun f cdv A outer s H vs Q E hr h => ?_)
  · obtain ⟨x, o, n, rfl, _⟩ := h
    rfl
  obtain ⟨x, o, n, rfl, hx, q⟩ := h
  refine ⟨_, pss_one (ps_ret (pe_and (pe_c0 GN hr (by decide) rfl (pa_cons (pv 0) pa_nil)) (pe_one (pe_cmpR op_lt (pv 0) (pv 1) (nomark _))))), ?_⟩
  refine ⟨_, rfl, x, o, rfl, hx, _, rfl, ?_⟩
  cases o with
  | none => exact iteF q
  | some i =>
    obtain rfl : x = .int i := hx
    cases e : numB (some i) with
    | false =>
      refine iteF ?_
      have e2 : belowB n (some i) = false := by
        show (decide (0 ≤ i) && decide (i < n)) = false
        rw [show decide (0 ≤ i) = false from e, Bool.false_and]
      rw [e2] at q
      exact q
    | true =>
      refine iteT ⟨_, rfl, _, rfl, _, _, rfl, rfl, ?_⟩
      have e2 : belowB n (some i) = decide (i < n) := by
        show (decide (0 ≤ i) && decide (i < n)) = decide (i < n)
        rw [show decide (0 ≤ i) = true from e, Bool.true_and]
      rw [e2] at q
      exact q
/-! ### need -/
/-- the dict of the error -/
def xdO (z : Str) (i : Int) : HO := .xd [("at", .int i), ("word", .str z)]
def spNeed (U : Addr) : Sp := fun vs H Q E => ∃ (b : Bool) (z : Str), vs = [.bl b, .str z] ∧ (b = true → Q .non H) ∧ (b = false → ∀ d, H d = none → E (.ref U) (some d) (upd H d (xdO z (-1))))
theorem ok_need (D : DefAt K mg "need" s_need ["fits", "word"]) (T : NUT K mg U fI) : CalX P w K mg base (L2.CX P w) 3 "need" ["fits", "word"] (spNeed U) := by
  refine D.okX sc_need (fun vs H Q E h => ?_) (fun f cdv A outer s H vs Q E hr h => ?_)
  · obtain ⟨b, z, rfl, _⟩ := h
    rfl
  obtain ⟨b, z, rfl, q1, q2⟩ := h
  obtain ⟨fdI, FI, bI⟩ := ok_nu (P := P) (w := w) (base := base) T
  refine ⟨_, pss_one (ps_if (pt_not (pt_val (pv 0))) (pss_one (ps_raise rfl (takes_of rfl rfl rfl rfl) (pmk_oex T.ox T.iC T.tI FI hr bI .nil pass0 rfl T.gU (pa_cons (pv 1) (pa_cons (pe_un un_neg pe_int) pa_nil))))) pss_nil), ?_⟩
  refine ⟨_, rfl, b, rfl, ?_⟩
  cases b with
  | true => exact iteF (q1 rfl)
  | false =>
    refine iteT ?_
    refine ⟨_, rfl, 1, rfl, (by show 2 ≤ 1000; decide), fun a ha => ?_⟩
    refine ⟨a, z, -1, rfl, upd_same, fun dx hdx hne => ⟨rfl, dx, [("at", .int (-1)), ("word", .str z)], ?_, upd_same, ?_, ?_⟩⟩
    · show hInit U a dx z (-1) (upd H a (exo a U none)) a = _
      unfold hInit
      rw [upd_ne (Ne.symm hne), upd_same]
    · rw [upd_ne hne] at hdx
      exact hdx
    · have e : upd (del (hInit U a dx z (-1) (upd H a (exo a U none))) a) dx (.xd [("at", .int (-1)), ("word", .str z)]) = upd H dx (xdO z (-1)) := by
        funext y
        unfold hInit xdO
        by_cases h1 : y = dx
        · rw [h1, upd_same, upd_same]
        · rw [upd_ne h1, upd_ne h1]
          by_cases h2 : y = a
          · rw [h2, del_same, ha]
          · rw [del_ne h2, upd_ne h1, upd_ne h2, upd_ne h1, upd_ne h2]
      rw [e]
      rw [upd_ne hne] at hdx
      exact q2 rfl dx hdx
end
end K27
set_option Elab.async false
set_option linter.all false
set_option maxRecDepth 100000
set_option maxHeartbeats 4000000
namespace K27
open PySem PySem.Spec PyProof.Rows L2
/-! ### shapes: a tuple is the list of its children -/
/-- o: no (further) child; c k r: the child k, then those of r; x: a value that is no tuple -/
inductive Dt | x | o | c (k r : Dt)
namespace Dt
def len : Dt → Nat | c _ r => r.len + 1 | _ => 0
def size : Dt → Nat | c k r => k.size + r.size + 1 | _ => 1
def isx : Dt → Bool | x => true | _ => false
/-- the children as a list -/
def kids : Dt → List Dt | c k r => k :: r.kids | _ => []
/-- all is well at this node -/
def here (least : Nat) (t : Dt) : Bool := !t.isx && decide (t.len ≤ 6) && !(decide (0 < t.len) && decide (t.len < least))
/-- all is well at all nodes of the children -/
def deep (least : Nat) : Dt → Bool | c k r => here least k && deep least k && deep least r | _ => true
def good (least : Nat) (t : Dt) : Bool := here least t && deep least t
theorem kids_len : ∀ t : Dt, t.kids.length = t.len | x => rfl | o => rfl | c _ r => congrArg (· + 1) (kids_len r)
theorem kids_good (l : Nat) : ∀ t : Dt, deep l t = t.kids.all (good l)
  | x => rfl
  | o => rfl
  | c k r => by
    show (here l k && deep l k && deep l r) = ((here l k && deep l k) && r.kids.all (good l))
    rw [kids_good l r]
theorem size_pos : ∀ t : Dt, 1 ≤ t.size | x => Nat.le_refl 1 | o => Nat.le_refl 1 | c _ _ => Nat.le_add_left 1 _
def sizes (l : List Dt) : Nat := (l.map size).sum
theorem sizes_kids : ∀ t : Dt, sizes t.kids + 1 ≤ t.size + t.len
  | x => Nat.le_refl 1
  | o => Nat.le_refl 1
  | c k r => by
    have q := sizes_kids r
    show (k.size + sizes r.kids) + 1 ≤ k.size + r.size + 1 + (r.len + 1)
    omega
end Dt
/-- the values of a row -/
inductive DtF (K : PySem.W.Frag) (H : Hp) : List V → Dt → Prop
  | nil : DtF K H [] .o
  | bad {v : V} {ws : List V} {r : Dt} {t : String} (h : KindV K H v t) (n : t ≠ "tuple") (q : DtF K H ws r) : DtF K H (v :: ws) (.c .x r)
  | tup {a : Addr} {vs ws : List V} {k r : Dt} (h : SqT K H a vs) (p : DtF K H vs k) (q : DtF K H ws r) : DtF K H (.ref a :: ws) (.c k r)
/-- one value -/
def DtV (K : PySem.W.Frag) (H : Hp) (v : V) (t : Dt) : Prop := (t = .x ∧ ∃ s, KindV K H v s ∧ s ≠ "tuple") ∨ ∃ a vs, v = .ref a ∧ SqT K H a vs ∧ DtF K H vs t
theorem tyx_tup {K : PySem.W.Frag} {H : Hp} {a : Addr} {xs : List V} (h : SqT K H a xs) : TyX K H (.ref a) (.type "tuple") := by
  rcases h with (h | ⟨o, h⟩) | ⟨o, its, n, h1, h2, _⟩
  · exact .base (.tup h)
  · exact .fTuple h
  · exact .kTuple h1 h2
theorem kind_sqt {K : PySem.W.Frag} {H : Hp} {a : Addr} {xs : List V} (h : SqT K H a xs) : KindV K H (.ref a) "tuple" := ⟨tyx_tup h, by simp⟩
theorem DtF.no_x {K : PySem.W.Frag} {H : Hp} {vs : List V} {t : Dt} (h : DtF K H vs t) : t.isx = false := by
  cases h <;> rfl
theorem DtF.len {K : PySem.W.Frag} {H : Hp} : ∀ {vs : List V} {t : Dt}, DtF K H vs t → vs.length = t.len
  | _, _, .nil => rfl
  | _, _, .bad _ _ q => congrArg (· + 1) q.len
  | _, _, .tup _ _ q => congrArg (· + 1) q.len
theorem DtF.kids {K : PySem.W.Frag} {H : Hp} : ∀ {vs : List V} {t : Dt}, DtF K H vs t → Paired (DtV K H) vs t.kids
  | _, _, .nil => .nil
  | _, _, .bad h n q => .cons (.inl ⟨rfl, _, h, n⟩) q.kids
  | _, _, .tup h p q => .cons (.inr ⟨_, _, rfl, h, p⟩) q.kids
theorem same_sqt {K : PySem.W.Frag} {H H' : Hp} {a : Addr} {xs : List V} (e : Same H H') (h : SqT K H a xs) : SqT K H' a xs := by
  rcases h with (h | ⟨o, h⟩) | h
  · exact .inl (.inl (e _ _ h))
  · exact .inl (.inr ⟨o, e _ _ h⟩)
  · exact .inr h
theorem same_kind {K : PySem.W.Frag} {H H' : Hp} {v : V} {t : String} (e : Same H H') (h : KindV K H v t) : KindV K H' v t := by
  obtain ⟨h, z⟩ := h
  refine ⟨?_, z⟩
  cases h with
  | base h =>
    cases h with
    | non => exact .base .non
    | bl b => exact .base (.bl b)
    | int i => exact .base (.int i)
    | str s => exact .base (.str s)
    | flt s => exact .base (.flt s)
    | lst h => exact .base (.lst (e _ _ h))
    | frz h => exact .base (.frz (e _ _ h))
    | tup h => exact .base (.tup (e _ _ h))
    | dK h => exact .base (.dK (e _ _ h))
    | dT h => exact .base (.dT (e _ _ h))
  | byt b => exact .byt b
  | set h => exact .set (e _ _ h)
  | kList a b => exact .kList a b
  | kTuple a b => exact .kTuple a b
  | kDict a b => exact .kDict a b
  | fTuple h => exact .fTuple (e _ _ h)
  | fDict h => exact .fDict (e _ _ h)
theorem same_dtf {K : PySem.W.Frag} {H H' : Hp} (e : Same H H') : ∀ {vs : List V} {t : Dt}, DtF K H vs t → DtF K H' vs t
  | _, _, .nil => .nil
  | _, _, .bad h n q => .bad (same_kind e h) n (same_dtf e q)
  | _, _, .tup h p q => .tup (same_sqt e h) (same_dtf e p) (same_dtf e q)
theorem same_dtv {K : PySem.W.Frag} {H H' : Hp} {v : V} {t : Dt} (e : Same H H') (h : DtV K H v t) : DtV K H' v t := by
  rcases h with ⟨a, s, b, c⟩ | ⟨a, vs, b, c, d⟩
  · exact .inl ⟨a, s, same_kind e b, c⟩
  · exact .inr ⟨a, vs, b, same_sqt e c, same_dtf e d⟩
theorem Paired.mono {α β : Type} {F G : α → β → Prop} (h : ∀ a b, F a b → G a b) : ∀ {l₁ : List α} {l₂ : List β}, Paired F l₁ l₂ → Paired G l₁ l₂
  | _, _, .nil => .nil
  | _, _, .cons r t => .cons (h _ _ r) (Paired.mono h t)
theorem Paired.app {α β : Type} {F : α → β → Prop} : ∀ {l₁ m₁ : List α} {l₂ m₂ : List β}, Paired F l₁ l₂ → Paired F m₁ m₂ → Paired F (l₁ ++ m₁) (l₂ ++ m₂)
  | _, _, _, _, .nil, s => s
  | _, _, _, _, .cons r t, s => .cons r (Paired.app t s)
theorem Paired.len {α β : Type} {F : α → β → Prop} : ∀ {l₁ : List α} {l₂ : List β}, Paired F l₁ l₂ → l₁.length = l₂.length
  | _, _, .nil => rfl
  | _, _, .cons _ t => congrArg (· + 1) (Paired.len t)
/-- the last pair -/
theorem Paired.last {α β : Type} {F : α → β → Prop} {l₁ : List α} {l₂ : List β} (h : Paired F l₁ l₂) (n : l₁ ≠ []) : ∃ a b l m, l₁ = l ++ [a] ∧ l₂ = m ++ [b] ∧ F a b ∧ Paired F l m := by
  induction h with
  | nil => exact absurd rfl n
  | @cons a b l m r t ih =>
    cases t with
    | nil => exact ⟨a, b, [], [], rfl, rfl, r, .nil⟩
    | @cons a' b' l' m' r' t' =>
      obtain ⟨x, y, p, q, e1, e2, f, g⟩ := ih (by simp)
      exact ⟨x, y, a :: p, b :: q, by rw [e1] <;> rfl, by rw [e2] <;> rfl, f, .cons r g⟩
section
variable {P : Program} {w : World} {K : PySem.W.Frag} {mg : Str → Option Value} {base : Heap}
theorem same_new {H : Hp} {p : Addr} {o : HO} (h : H p = none) : Same H (upd H p o) := fun b u q => by rw [upd_ne (ne_of_none q h)]; exact q
/-- a new object changes -/
theorem same_mut {H H' : Hp} {p : Addr} {o : HO} (e : Same H H') (h : H p = none) : Same H (upd H' p o) := fun a u ha => by
  rw [upd_ne (ne_of_none ha h)]
  exact e a u ha
/-! ### has_forks_of -/
def spForks (K : PySem.W.Frag) : Sp := fun vs H Q _ => ∃ (v : V) (t : Dt) (least : Nat), vs = [v, .int least] ∧ DtV K H v t ∧ t.size ≤ 100000 ∧ ∀ H', Same H H' → Q (.bl (t.good least)) H'
theorem ok_forks (D : DefAt K mg "has_forks_of" s_has_forks_of ["thing", "least"]) (T : Txt K mg) (mk : ∃ t, mg "MOST_CHILDREN" = some (.int 6 t)) : CalX P w K mg base CX0 1 "has_forks_of" ["thing", "least"] (spForks K) := by
  obtain ⟨tk, mk⟩ := mk
  refine D.ok sc_has_forks_of (fun vs H Q E h => ?_) (fun f cdv A outer s H vs Q E hr h => ?_)
  · obtain ⟨v, t, l, rfl, _⟩ := h
    rfl
  obtain ⟨v, t, least, rfl, hv, hs, q⟩ := h
  refine ⟨_, pss_cons (ps_set (i := 2) sc_has_forks_of.nd rfl (.inl rfl) (pe_lst (pa_cons (pv 0) pa_nil)))
    (pss_cons (ps_while PassesOwn.never (pt_truth (pv 2) (by intro _; rfl))
      (pss_cons (ps_set (i := 3) sc_has_forks_of.nd rfl (.inl rfl) (pe_bm0 PySem.F.plainAttrs_list PySem.F.slot_list_pop PySem.F.type_list_pop mt_pop (pv 2)))
      (pss_cons (ps_if (PW.pt (pw_or (pt_not (pt_val (pe_callB call_isi (by rfl) T.isinstance boot_isinstance (pa_cons (pv 3) (pa_cons (pe_bltn (v := .ty "tuple") (by rfl) T.tuple PyProof.Rows.boot_tuple rfl) pa_nil)))))
          (pw_or1 (pt_cmpR op_gt (pe_callB call_len_seq (by rfl) T.len PySem.boot_len (pa_cons (pv 3) pa_nil)) (pe_glob (v := .int 6) (by rfl) mk ⟨_, rfl⟩) (nomark _))))) (pss_one (ps_ret pe_bl)) pss_nil)
      (pss_cons (ps_if (pt_chain op_lt op_lt pe_int (pe_callB call_len_seq (by rfl) T.len PySem.boot_len (pa_cons (pv 3) pa_nil)) (pv 1)) (pss_one (ps_ret pe_bl)) pss_nil)
      (pss_one (ps_expr (pe_bm PySem.F.plainAttrs_list PySem.F.slot_list_extend PySem.F.type_list_extend mt_extendT (pv 2) (pa_cons (pv 3) pa_nil))))))))
    (pss_one (ps_ret pe_bl))), ?_⟩
  refine ⟨_, rfl, (by show 1 ≤ sizeLine; decide), fun l hl => ?_⟩
  refine ⟨fun m σ H' => ∃ (xs : List V) (ds : List Dt) (pv : Option V), σ = [some v, some (.int least), some (.ref l), pv] ∧ Same H H' ∧ H' l = some (.lst xs) ∧ Paired (DtV K H) xs ds ∧ m = Dt.sizes ds ∧ Dt.sizes ds ≤ 100000 ∧ t.good least = ds.all (Dt.good least),
    ⟨Dt.sizes [t], [v], [t], none, rfl, same_new hl, upd_same, .cons hv .nil, rfl, (by show t.size + 0 ≤ 100000; omega), by simp⟩, fun m σ H' hW => ?_⟩
  obtain ⟨xs, ds, pv, rfl, sm, hL, hp, rfl, hz, hg⟩ := hW
  have hlen := Paired.len hp
  refine ⟨_, rfl, !xs.isEmpty, .inl ⟨xs, .inl (.inl hL), rfl⟩, ?_⟩
  cases xs with
  | nil =>
    cases hp
    refine iteF ?_
    rw [show t.good least = true from hg] at q
    exact q H' sm
  | cons x0 xr =>
    refine iteT ?_
    obtain ⟨a, b, l1, m1, e1, e2, hab, hlm⟩ := Paired.last hp (by simp)
    rw [e1] at hL hlen
    rw [e2] at hz hg hlen ⊢
    have es : Dt.sizes (m1 ++ [b]) = Dt.sizes m1 + b.size := by simp [Dt.sizes]
    have eg : (m1 ++ [b]).all (Dt.good least) = (m1.all (Dt.good least) && Dt.good least b) := by simp
    refine ⟨_, fun _ _ z => z, ?_⟩
    -- part = left.pop()
    refine ⟨_, rfl, .inl ⟨rfl, _, .inl (.inl hL)⟩, l, _, a, rfl, rfl, hL, by simp, ?_⟩
    rw [List.dropLast_concat]
    have sm1 : Same H (upd H' l (.lst l1)) := same_mut sm hl
    have bad : Dt.here least b = false → t.good least = false := fun z => by
      rw [hg, eg]
      unfold Dt.good
      rw [z]
      simp
    rcases hab with ⟨rfl, s', hk, hn⟩ | ⟨ad, vs', rfl, hS, hF⟩
    · -- no tuple
      have hk' := same_kind sm1 hk
      have e3 : (s' == "tuple") = false := by simpa using hn
      refine isi_read rfl hk'.1 (kit_tup hk'.2) ⟨_, rfl, ?_⟩
      rw [e3]
      refine iteT (iteT ?_)
      rw [bad rfl] at q
      exact q _ sm1
    · have hS' := same_sqt sm1 hS
      refine isi_read rfl (tyx_tup hS') (kit_tup (t := "tuple") (by simp)) ⟨_, rfl, ?_⟩
      refine iteF ?_
      have lk := hF.len
      refine ⟨_, rfl, ad, vs', rfl, .inr hS', _, _, rfl, rfl, _, rfl, ?_⟩
      refine ite2 (fun c => ?_) (fun c => ?_)
      · have c' : (6 : Int) < (vs'.length : Int) := of_decide_eq_true c
        rw [bad ?_] at q
        · exact q _ sm1
        · unfold Dt.here
          rw [show decide (b.len ≤ 6) = false from decide_eq_false (by omega)]
          simp
      · have c' : ¬ (6 : Int) < (vs'.length : Int) := fun z => c (decide_eq_true z)
        have h6 : decide (b.len ≤ 6) = true := decide_eq_true (by omega)
        have nx : b.isx = false := hF.no_x
        have skids : ∀ b' : Dt, Dt.sizes b'.kids < b'.size := fun b' => by
          induction b' with
          | x => exact Nat.lt_succ_self 0
          | o => exact Nat.lt_succ_self 0
          | c k r _ ih =>
            show k.size + Dt.sizes r.kids < k.size + r.size + 1
            omega
        have sk := skids b
        have ek : Dt.sizes (m1 ++ b.kids) = Dt.sizes m1 + Dt.sizes b.kids := by simp [Dt.sizes]
        have hlm' := Paired.len hlm
        have lsz : ∀ ds : List Dt, ds.length ≤ Dt.sizes ds := fun ds => by
          induction ds with
          | nil => exact Nat.le_refl 0
          | cons d ds ih =>
            have := d.size_pos
            show ds.length + 1 ≤ d.size + Dt.sizes ds
            omega
        have l1z := lsz m1
        have l2z := lsz b.kids
        have lk2 := b.kids_len
        have g2 : Dt.here least b = true → t.good least = (m1 ++ b.kids).all (Dt.good least) := fun z => by
          rw [hg, eg]
          unfold Dt.good
          rw [z, List.all_append, Dt.kids_good]
          rfl
        have sz : l1.length + vs'.length ≤ sizeLine := by
          rw [sizeLine_eq]
          omega
        refine ⟨_, rfl, ad, vs', rfl, .inr hS', _, _, rfl, rfl, _, rfl, ?_⟩
        refine ite2 (fun c1 => ?_) (fun c1 => ?_)
        · have c1' : (0 : Int) < (vs'.length : Int) := of_decide_eq_true c1
          refine ⟨_, rfl, _, _, rfl, rfl, _, rfl, ?_⟩
          refine ite2 (fun c2 => ?_) (fun c2 => ?_)
          · have c2' : (vs'.length : Int) < (least : Int) := of_decide_eq_true c2
            rw [bad ?_] at q
            · exact q _ sm1
            · unfold Dt.here
              rw [decide_eq_true (show 0 < b.len by omega), decide_eq_true (show b.len < least by omega)]
              simp
          · have c2' : ¬ (vs'.length : Int) < (least : Int) := fun z => c2 (decide_eq_true z)
            have hh : Dt.here least b = true := by
              unfold Dt.here
              rw [nx, h6, decide_eq_false (show ¬ b.len < least by omega)]
              simp
            refine ⟨_, rfl, .inl ⟨rfl, _, .inl (.inl upd_same)⟩, _, rfl, l, ad, l1, vs', rfl, rfl, upd_same, hS', sz, ?_⟩
            refine ⟨_, by omega, l1 ++ vs', m1 ++ b.kids, _, rfl, same_mut sm1 hl, upd_same, Paired.app hlm hF.kids, rfl, by omega, g2 hh⟩
        · have c1' : ¬ (0 : Int) < (vs'.length : Int) := fun z => c1 (decide_eq_true z)
          refine ⟨_, rfl, ?_⟩
          refine iteF ?_
          have hh : Dt.here least b = true := by
            unfold Dt.here
            rw [nx, h6, decide_eq_false (show ¬ 0 < b.len by omega)]
            simp
          refine ⟨_, rfl, .inl ⟨rfl, _, .inl (.inl upd_same)⟩, _, rfl, l, ad, l1, vs', rfl, rfl, upd_same, hS', sz, ?_⟩
          refine ⟨_, by omega, l1 ++ vs', m1 ++ b.kids, _, rfl, same_mut sm1 hl, upd_same, Paired.app hlm hF.kids, rfl, by omega, g2 hh⟩
/-! ### is_shape, need_shape -/
def spIsShape (K : PySem.W.Frag) : Sp := fun vs H Q _ => ∃ (v : V) (t : Dt), vs = [v] ∧ DtV K H v t ∧ t.size ≤ 100000 ∧ ∀ H', Same H H' → Q (.bl (t.good 1)) H'
theorem ok_isShape (D : DefAt K mg "is_shape" s_is_shape ["thing"]) (G : CalX P w K mg base CX0 1 "has_forks_of" ["thing", "least"] (spForks K)) : CalX P w K mg base CX0 2 "is_shape" ["thing"] (spIsShape K) := by
  refine D.ok sc_is_shape (fun vs H Q E h => ?_) (fun f cdv A outer s H vs Q E hr h => ?_)
  · obtain ⟨v, t, rfl, _⟩ := h
    rfl
  obtain ⟨v, t, rfl, hv, hz, q⟩ := h
  refine ⟨_, pss_one (ps_ret (pe_c0 G hr (by decide) rfl (pa_cons (pv 0) (pa_cons pe_int pa_nil)))), ?_⟩
  exact ⟨_, rfl, v, t, 1, rfl, hv, hz, q⟩
def spNeedShape (K : PySem.W.Frag) (U : Addr) : Sp := fun vs H Q E => ∃ (v : V) (t : Dt) (z : Str), vs = [v, .str z] ∧ DtV K H v t ∧ t.size ≤ 100000 ∧
  (t.good 1 = true → ∀ H', Same H H' → Q .non H') ∧ (t.good 1 = false → ∀ H' d, Same H H' → H' d = none → E (.ref U) (some d) (upd H' d (xdO z (-1))))
theorem ok_needShape {U : Addr} (D : DefAt K mg "need_shape" s_need_shape ["form", "word"]) (G : CalX P w K mg base CX0 2 "is_shape" ["thing"] (spIsShape K)) (GN : CalX P w K mg base (L2.CX P w) 3 "need" ["fits", "word"] (spNeed U)) :
    CalX P w K mg base (L2.CX P w) 4 "need_shape" ["form", "word"] (spNeedShape K U) := by
  refine D.okX sc_need_shape (fun vs H Q E h => ?_) (fun f cdv A outer s H vs Q E hr h => ?_)
  · obtain ⟨v, t, z, rfl, _⟩ := h
    rfl
  obtain ⟨v, t, z, rfl, hv, hz, q1, q2⟩ := h
  refine ⟨_, pss_one (ps_expr (pe_cx GN hr (by decide) rfl (passes_call (takes_of rfl rfl rfl rfl) (fun _ _ _ _ h => h)) (pa_cons (pe_c0 G hr (by decide) rfl (pa_cons (pv 0) pa_nil)) (pa_cons (pv 1) pa_nil)))), ?_⟩
  refine ⟨_, rfl, v, t, rfl, hv, hz, fun H' sm => ?_⟩
  exact ⟨_, rfl, _, z, rfl, fun e => q1 e H' sm, fun e d hd => q2 e H' d sm hd⟩
end
end K27
set_option Elab.async false
set_option linter.all false
set_option maxRecDepth 100000
set_option maxHeartbeats 4000000
namespace PySem
open Sem (wp)
open AutoSeq1 (wpAny_loadPart')
theorem meets_enumerate_newT (l : Addr) (ob : Obj) (items : Array Value) (n : Nat) (hc : ob.cls = .type "tuple") (hd : ob.data = .seq items n) :
    Meets (Builtin.«enumerate.__new__» ⟨[.type "enumerate", .ref l], []⟩) (fun _ R s => s.heap.get? l = some ob ∧
      R (.ok (.ret (.ref (s.heap.push { cls := .type "tuple_iterator", data := .fields #[.ref l, .int 0 0] }).objs.size)))
        { s with heap := (s.heap.push { cls := .type "tuple_iterator", data := .fields #[.ref l, .int 0 0] }).push { cls := .type "enumerate", data := .fields #[.none, .bool false, .ref s.heap.objs.size, rawInt 0, .none, .none] } }) :=
  .of_wp fun prog w A R s h => by
    obtain ⟨hp, g, d, tk, os⟩ := s; obtain ⟨hl, h⟩ := h
    have hsub := sub_enumerate
    have hL : Heap.IsTuple (Shared.heap ⟨hp, g, d, tk, os⟩) l items := ⟨_, hl, hc, n, hd⟩
    wp_walk using wpAny_loadPart' hl
    refine wpAny_stack_any fun st => wpAny_pure ?_
    split
    · rename_i c _ _ _ _ _
      cases (c == Value.type "enumerate")
      · wp_walk using wpAny_loadPart' hl, wpAny_pyIter_tuple hL
        exact ⟨_, rfl, h⟩
      · wp_walk using wpAny_loadPart' hl, wpAny_pyIter_tuple hL
        exact ⟨_, rfl, h⟩
    · wp_walk using wpAny_loadPart' hl, wpAny_pyIter_tuple hL
      exact ⟨_, rfl, h⟩
section
variable {prog : Program} {w : World} {A : Around} {E : Value → Shared → Prop} {s : Shared}
theorem call_enumerate_tup {l : Addr} {items : Array Value} {Q : Value → Shared → Prop} (hL : s.heap.IsTuple l items)
    (h : ∀ h', IsEnum h' (s.heap.objs.size + 1) s.heap.objs.size 0 .none → h'.IsTupleIter s.heap.objs.size l 0 → h'.objs.size = s.heap.objs.size + 2 →
      (∀ b o, s.heap.get? b = some o → h'.get? b = some o) → Q (.ref (s.heap.objs.size + 1)) { s with heap := h' }) :
    wpAny (model prog w) A (call (.type "enumerate") [.ref l]) Q E s := by
  obtain ⟨ob, hl, hc, n, hd⟩ := hL
  refine callType_new F.called_enumerate (by decide) (F.typeCall_enumerate_1 _) (F.newCall_enumerate_1 _) (fun obj => F.args_object_init_2 obj _) F.entry_enumerate_new
    (meets_enumerate_newT l ob items n hc hd) ⟨hl, ?_⟩
  have hz : (s.heap.push { cls := .type "tuple_iterator", data := .fields #[.ref l, .int 0 0] }).objs.size = s.heap.objs.size + 1 := Heap.size_push ..
  show _ ∧ _
  rw [hz]
  have he : IsEnum ((s.heap.push { cls := .type "tuple_iterator", data := .fields #[.ref l, .int 0 0] }).push
      { cls := .type "enumerate", data := .fields #[.none, .bool false, .ref s.heap.objs.size, rawInt 0, .none, .none] }) (s.heap.objs.size + 1) s.heap.objs.size 0 .none := by
    have := Heap.get?_push_size (s.heap.push { cls := .type "tuple_iterator", data := .fields #[.ref l, .int 0 0] })
      (o := { cls := .type "enumerate", data := .fields #[.none, .bool false, .ref s.heap.objs.size, rawInt 0, .none, .none] }) rfl
    rw [hz] at this; exact this
  refine ⟨⟨_, he, rfl⟩, h _ he ⟨_, Heap.get?_push_of_some _ (Heap.get?_push_size _ rfl), rfl, rfl⟩ (by rw [Heap.size_push, hz]) fun b o x => Heap.get?_push_of_some _ (Heap.get?_push_of_some _ x)⟩
end
end PySem
namespace L2
open PySem PySem.Spec PyProof.Rows
/-! ### enumerate(tuple) -/
def Itet (K : PySem.W.Frag) (a : Addr) : It :=
  ⟨fun i H => ∃ (xs : List V) (x : V), SqT K H a xs ∧ xs[i]? = some x, fun i H v H' => ∃ T x, v = .ref T ∧ H T = none ∧ H' = upd H T (.tup [.int (i : Nat), x]) ∧ ∀ xs, SqT K H a xs → xs[i]? = some x, fun i H => ∃ xs : List V, SqT K H a xs ∧ xs.length ≤ i⟩
theorem turn_enumT {P : Program} {w : World} {K : PySem.W.Frag} {elts : List Expr} {kk : Nat} {tpos : Pos} (a e it : Addr) :
    Turn P w K (.Tuple elts kk tpos) (Itet K a) [e, it] e (fun i h => (∃ old, IsEnum h e it ((i : Nat) : Int) old) ∧ h.IsTupleIter it a i ∧ e ≠ it ∧ a ≠ e ∧ a ≠ it) where
  mem := by simp
  obj := fun i h st b hb => by
    obtain ⟨⟨old, he⟩, ⟨o, ho, hc, hd⟩, _⟩ := st
    have e' : b = e ∨ b = it := by simpa using hb
    rcases e' with z | z
    · rw [z]; exact ⟨_, he, fun v q => nomatch q⟩
    · rw [z]; exact ⟨o, ho, fun v q => by rw [hd] at q; cases q⟩
  keep := fun i h h' st k => let ⟨⟨old, he⟩, hi, hne⟩ := st; ⟨⟨old, k e (by simp) _ he⟩, hi.at fun o q => k it (by simp) o q, hne⟩
  item := by
    intro X hP hw hK hc i pins s σ H E I hf st hg
    subst hP hw hK
    obtain ⟨⟨old, he⟩, hit, hne, hae, hai⟩ := st
    obtain ⟨xs, x, hq, hx⟩ := hg
    obtain ⟨its, rv, p, hz⟩ := I.tuple hq
    obtain ⟨u, hu, ru⟩ := rv.get hx
    have hel : e < s.heap.objs.size := Heap.lt_size he
    have hil : it < s.heap.objs.size := by obtain ⟨_, q, _⟩ := hit; exact Heap.lt_size q
    have hi : i < its.toArray.size := by
      rw [List.size_toArray]
      exact (List.getElem?_eq_some_iff.mp hu).1
    have D := Draws.tuple (prog := X.prog) (w := X.w) (A := X.A.in1) (I.ok.hd hc) it a hai its.toArray
    refine wpAny_pyNext_enum_itemD D he ⟨hit, p⟩ hi hne (by simp [Ne.symm hae, hne]) fun x' h' tk' hP ho hit' hT hsz hk => ?_
    refine ⟨_, rfl, wpAny_letOwnedTupleGo_enum (s := { s with heap := h', toks := tk' + 1 }) ho fun h'' he' sb => ?_⟩
    have eu : x' = u := by
      have e1 : its.toArray[i]? = some x' := hP
      have e2 : its.toArray[i]? = some u := by simpa using hu
      exact Option.some.inj (e1.symm.trans e2)
    subst eu
    have hT2 : h''.get? s.heap.objs.size = some { cls := .type "tuple", data := .seq #[.int i tk', x'] } := (sb.2 _ (Nat.ne_of_gt hel)).trans hT
    have new : ObjOk X.prog X.w (upd H s.heap.objs.size (.tup [.int (i : Nat), x])) h'' s.heap.objs.size (.tup [.int (i : Nat), x]) :=
      ⟨by show 2 ≤ sizeLine; decide, [.int i tk', x'], .cons ⟨_, rfl⟩ (.cons ru .nil), ⟨_, hT2, rfl, _, rfl⟩⟩
    have I1 : Inv X pins σ (upd H s.heap.objs.size (.tup [.int (i : Nat), x])) { s with heap := h'', toks := tk' + 1 } :=
      I.turnedNew (ch := [e, it]) (fun b ob hb q => (sb.2 b (fun z => hb (by simp [z]))).trans (hk b ob (fun z => hb (by simp [z])) (fun z => hb (by simp [z])) q)) hf (Nat.le_refl _) new
    refine ⟨.ref s.heap.objs.size, _, I1, rfl, ⟨_, x, rfl, I.hok.fresh (Nat.le_refl _), rfl, fun ys hy => by rw [I.tuple_inj hy hq]; exact hx⟩, ⟨⟨x', ?_⟩, hit'.1.at fun o q => (sb.2 it (Ne.symm hne)).trans q, hne, hae, hai⟩, fun b hb => ?_⟩
    · have e1 : ((i + 1 : Nat) : Int) = (i : Int) + 1 := by omega
      rw [e1]; exact he'
    · have hb' : b < s.heap.objs.size := by
        have e' : b = e ∨ b = it := by simpa using hb
        rcases e' with z | z
        · rw [z]; exact hel
        · rw [z]; exact hil
      rw [upd_ne (Nat.ne_of_lt hb')]
      exact (hf b hb).1
  done := by
    intro X hP hw hK hc i pins s σ H E I hf st hg
    subst hP hw hK
    obtain ⟨⟨old, he⟩, hit, hne, hae, hai⟩ := st
    obtain ⟨xs, hq, hx⟩ := hg
    obtain ⟨its, rv, p, hz⟩ := I.tuple hq
    obtain ⟨f0, f1, f2, f3, f4, f5⟩ := hf it (by simp)
    have hl := rv.length
    have hT : s.TypeIs (.ref e) "enumerate" := ⟨_, he, rfl⟩
    unfold pyNext
    refine wpAny_bind (wpAny_attempt (wpAny_callSpecial?_slot (name := Str.ofString "__next__") hT F.slot_enumerate_next
      (wpAny_call_entry F.slot_enumerate_next hT F.entry_enumerate_next ?_ (F.args_enumerate_next_1 _))))
    show wpAny _ _ (field (.ref e) 2 >>= _) _ _ _
    refine wpAny_bind (wpAny_field he rfl (x := .ref it) rfl ?_)
    refine wpAny_bind (wpAny_nextOf_tuple_end (show X.A.in1.handled = none from I.ok.hd hc) hit p (by rw [List.getElem?_toArray]; exact List.getElem?_eq_none (by omega)) fun h' x he' hx' => ?_)
    obtain ⟨o, ho, hcl⟩ := hx'
    refine wpAny_bind (wpAny_isInstance (T := "StopIteration") (b := true) ⟨o, ho, hcl⟩ isSubtype_stop ?_)
    obtain ⟨g0, g1, g2, g3, g4, g5⟩ := hf it (by simp)
    exact wpAny_pure ⟨rfl, I.turned (t' := s.toks) (fun b o hb q => he' b o hb q) g0 g1 g3 g4 g5⟩
  self := fun A i s Q E st h => let ⟨⟨_, he⟩, _⟩ := st; wpAny_pyIter_enum he h
def iEnumT (K : PySem.W.Frag) (ta : TA) : TI := fun σ H R => ta σ H fun vs H1 => ∃ a xs, vs = [.ref a] ∧ SqT K H1 a xs ∧ R (Itet K a) H1
theorem pi_enumT {X : Cx} {e : Expr} {ta : TA} {p pos tpos : Pos} {elts : List Expr} {kk : Nat} (hg : Gl X "enumerate") (hm : X.mg "enumerate" = none) (ha : PA X [e] ta) (hs : starEach [e] X.env = [(false, eval e X.env)] := by rfl) :
    PI X (.Tuple elts kk tpos) (.Call (.Name "enumerate" p) [e] [] pos) (iEnumT X.K ta) := by
  refine ⟨fun pins s σ H R I h => ?_⟩
  refine Call_ (ld_blt I hg hm boot_enumerate (PyProof.Rows.callWith_type1 (thn (ha.run pos pins s σ H _ I h) fun us s1 ⟨vs, H1, I1, r1, q1⟩ => ?_) hs rfl))
  obtain ⟨a, xs, ex, hq, q⟩ := q1
  subst ex
  cases r1 with
  | cons r rr =>
    cases rr
    cases r
    obtain ⟨its, rv, p', hz⟩ := I1.tuple hq
    have hal : a < s1.heap.objs.size := by
      obtain ⟨o, ho, _⟩ := p'
      exact Heap.lt_size ho
    refine call_enumerate_tup p' fun h' he hit hsz hk => wpAny_pyIter_enum he ?_
    have I2 : Inv X pins σ H1 { s1 with heap := h' } := I1.kept (t' := s1.toks) hk
    refine ⟨s1.heap.objs.size + 1, [s1.heap.objs.size + 1, s1.heap.objs.size], _, _, H1, rfl, I2, turn_enumT a (s1.heap.objs.size + 1) s1.heap.objs.size, ⟨⟨.none, he⟩, hit, Nat.succ_ne_self _, Nat.ne_of_lt (Nat.lt_succ_of_lt hal), Nat.ne_of_lt hal⟩, fun b hb => ?_, q⟩
    have e' : b = s1.heap.objs.size + 1 ∨ b = s1.heap.objs.size := by simpa using hb
    have hle : s1.heap.objs.size ≤ b := by
      rcases e' with z | z
      · rw [z]; exact Nat.le_add_right _ _
      · rw [z]; exact Nat.le_refl _
    exact I1.fpOk hle (I1.hok.fresh hle)
theorem walk_enumT {K : PySem.W.Frag} {a : Addr} {xs : List V} : Walk (Itet K a) xs.length (fun H => SqT K H a xs) (YPair (fun i => some (.int (i : Nat))) (fun i => xs[i]?)) := by
  refine ⟨fun i _ hi q => ⟨xs, xs[i], q, by simp [hi]⟩, fun _ q => ⟨xs, q, Nat.le_refl _⟩, fun i H v H' _ q y => ?_⟩
  obtain ⟨T, x, h1, h2, h3, h4⟩ := y
  exact ⟨T, .int (i : Nat), x, h1, h2, h3, rfl, h4 xs q⟩
end L2
set_option Elab.async false
set_option linter.all false
set_option maxRecDepth 100000
set_option maxHeartbeats 4000000
namespace K27
open PySem PySem.Spec PyProof.Rows L2
/-! ### addresses: the mathematics of a tree's nodes -/
abbrev Ad := List Nat
namespace Dt
/-- the nodes of the tree with this row of children, itself counted -/
def nodes : Dt → Nat | c k r => k.nodes + r.nodes | _ => 1
theorem nodes_pos : ∀ t : Dt, 1 ≤ t.nodes
  | x => Nat.le_refl 1
  | o => Nat.le_refl 1
  | c k r => Nat.le_trans (nodes_pos k) (Nat.le_add_right _ _)
def sub : Dt → Ad → Option Dt
  | t, [] => some t
  | c k _, 0 :: p => sub k p
  | c _ r, (j + 1) :: p => sub r (j :: p)
  | _, _ :: _ => none
def idx : Dt → Ad → Nat
  | _, [] => 0
  | c k _, 0 :: p => 1 + idx k p
  | c k r, (j + 1) :: p => k.nodes + idx r (j :: p)
  | _, _ :: _ => 0
def up : Ad → Ad
  | j :: p => (j + 1) :: p
  | [] => []
def adF : Dt → List Ad
  | c k r => (([] :: adF k).map (List.cons 0)) ++ (adF r).map up
  | _ => []
def ad (t : Dt) : List Ad := [] :: adF t
theorem sub_nil (t : Dt) : sub t [] = some t := by cases t <;> rfl
theorem idx_nil (t : Dt) : idx t [] = 0 := by cases t <;> rfl
theorem sub_c0 (k r : Dt) (p : Ad) : sub (c k r) (0 :: p) = sub k p := rfl
theorem sub_cs (k r : Dt) (j : Nat) (p : Ad) : sub (c k r) ((j + 1) :: p) = sub r (j :: p) := rfl
theorem idx_c0 (k r : Dt) (p : Ad) : idx (c k r) (0 :: p) = 1 + idx k p := rfl
theorem idx_cs (k r : Dt) (j : Nat) (p : Ad) : idx (c k r) ((j + 1) :: p) = k.nodes + idx r (j :: p) := rfl
theorem sub_o (j : Nat) (p : Ad) : sub o (j :: p) = none := by cases j <;> rfl
theorem sub_x (j : Nat) (p : Ad) : sub x (j :: p) = none := by cases j <;> rfl
theorem adF_len : ∀ t : Dt, (adF t).length + 1 = t.nodes
  | x => rfl
  | o => rfl
  | c k r => by
    have h1 := adF_len k
    have h2 := adF_len r
    show ((([] :: adF k).map (List.cons 0)) ++ (adF r).map up).length + 1 = k.nodes + r.nodes
    simp only [List.length_append, List.length_map, List.length_cons]
    omega
theorem ad_len (t : Dt) : (ad t).length = t.nodes := adF_len t
theorem ad_c (k r : Dt) : ad (c k r) = [] :: ((ad k).map (List.cons 0) ++ (adF r).map up) := rfl
/-- no address here begins with p -/
def Off (p : Ad) (l : List Ad) : Prop := ∀ q ∈ l, ¬ p <+: q
theorem adF_cons : ∀ (t : Dt) (q : Ad), q ∈ adF t → ∃ j p, q = j :: p
  | x, q, h => by simp [adF] at h
  | o, q, h => by simp [adF] at h
  | c k r, q, h => by
    have h' : q ∈ (ad k).map (List.cons 0) ++ (adF r).map up := h
    rcases List.mem_append.mp h' with h | h
    · obtain ⟨p, _, rfl⟩ := List.mem_map.mp h
      exact ⟨0, p, rfl⟩
    · obtain ⟨p, hp, rfl⟩ := List.mem_map.mp h
      obtain ⟨j, p', rfl⟩ := adF_cons r p hp
      exact ⟨j + 1, p', rfl⟩
theorem block : ∀ (t : Dt) (p : Ad) (u : Dt), sub t p = some u → ∃ A B, ad t = A ++ ((ad u).map (p ++ ·) ++ B) ∧ A.length = idx t p ∧ Off p A ∧ Off p B
  | t, [], u, h => by
    rw [sub_nil] at h
    cases h
    refine ⟨[], [], ?_, (idx_nil t).symm, by intro q h; simp at h, by intro q h; simp at h⟩
    simp
  | c k r, 0 :: p, u, h => by
    obtain ⟨A, B, e, l, oa, ob⟩ := block k p u h
    refine ⟨[] :: A.map (List.cons 0), B.map (List.cons 0) ++ (adF r).map up, ?_, ?_, ?_, ?_⟩
    · rw [ad_c, e]
      simp
    · rw [idx_c0, ← l]
      simp
      omega
    · intro q hq
      rcases List.mem_cons.mp hq with rfl | hq
      · simp
      · obtain ⟨q', hq', rfl⟩ := List.mem_map.mp hq
        intro z
        exact oa q' hq' (List.cons_prefix_cons.mp z).2
    · intro q hq
      rcases List.mem_append.mp hq with hq | hq
      · obtain ⟨q', hq', rfl⟩ := List.mem_map.mp hq
        intro z
        exact ob q' hq' (List.cons_prefix_cons.mp z).2
      · obtain ⟨q', hq', rfl⟩ := List.mem_map.mp hq
        obtain ⟨j, p', rfl⟩ := adF_cons r q' hq'
        intro z
        have := (List.cons_prefix_cons.mp z).1
        omega
  | c k r, (j + 1) :: p, u, h => by
    obtain ⟨A, B, e, l, oa, ob⟩ := block r (j :: p) u h
    cases A with
    | nil =>
      exfalso
      have e2 : ad r = (j :: p ++ []) :: (((adF u).map (j :: p ++ ·)) ++ B) := e
      have e3 : ([] : Ad) = j :: p ++ [] := (List.cons.inj e2).1
      cases e3
    | cons a A' =>
      have e2 : [] :: adF r = a :: (A' ++ ((ad u).map (j :: p ++ ·) ++ B)) := e
      obtain ⟨_, e3⟩ := List.cons.inj e2
      refine ⟨[] :: ((ad k).map (List.cons 0) ++ A'.map up), B.map up, ?_, ?_, ?_, ?_⟩
      · rw [ad_c, e3]
        simp [up, Function.comp_def]
      · rw [idx_cs, ← l, ← ad_len k]
        simp
        omega
      · intro q hq
        rcases List.mem_cons.mp hq with rfl | hq
        · simp
        · rcases List.mem_append.mp hq with hq | hq
          · obtain ⟨q', hq', rfl⟩ := List.mem_map.mp hq
            intro z
            have := (List.cons_prefix_cons.mp z).1
            omega
          · obtain ⟨q', hq', rfl⟩ := List.mem_map.mp hq
            have hm : q' ∈ adF r := by rw [e3]; exact List.mem_append_left _ hq'
            obtain ⟨j', p', rfl⟩ := adF_cons r q' hm
            intro z
            obtain ⟨z1, z2⟩ := List.cons_prefix_cons.mp z
            exact oa _ (List.mem_cons_of_mem _ hq') (List.cons_prefix_cons.mpr ⟨by omega, z2⟩)
      · intro q hq
        obtain ⟨q', hq', rfl⟩ := List.mem_map.mp hq
        have hm : q' ∈ adF r := by rw [e3]; exact List.mem_append_right _ (List.mem_append_right _ hq')
        obtain ⟨j', p', rfl⟩ := adF_cons r q' hm
        intro z
        obtain ⟨z1, z2⟩ := List.cons_prefix_cons.mp z
        exact ob _ hq' (List.cons_prefix_cons.mpr ⟨by omega, z2⟩)
  | o, j :: p, _, h => by rw [sub_o] at h; cases h
  | x, j :: p, _, h => by rw [sub_x] at h; cases h
theorem sub_app : ∀ (t : Dt) (p : Ad) (u : Dt), sub t p = some u → ∀ q, sub t (p ++ q) = sub u q ∧ idx t (p ++ q) = idx t p + idx u q
  | t, [], u, h, q => by
    rw [sub_nil] at h
    cases h
    rw [idx_nil]
    exact ⟨rfl, (Nat.zero_add _).symm⟩
  | c k r, 0 :: p, u, h, q => by
    obtain ⟨a, b⟩ := sub_app k p u h q
    refine ⟨a, ?_⟩
    show 1 + idx k (p ++ q) = 1 + idx k p + idx u q
    omega
  | c k r, (j + 1) :: p, u, h, q => by
    obtain ⟨a, b⟩ := sub_app r (j :: p) u h q
    refine ⟨a, ?_⟩
    show k.nodes + idx r (j :: p ++ q) = k.nodes + idx r (j :: p) + idx u q
    omega
  | o, j :: p, _, h, _ => by rw [sub_o] at h; cases h
  | x, j :: p, _, h, _ => by rw [sub_x] at h; cases h
theorem ad_at {t u : Dt} {p : Ad} (h : sub t p = some u) : (ad t)[idx t p]? = some p := by
  obtain ⟨A, B, e, l, _, _⟩ := block t p u h
  have e2 : (ad u).map (p ++ ·) = p :: (adF u).map (p ++ ·) := by
    show (p ++ []) :: _ = _
    rw [List.append_nil]
  rw [e, e2, ← l]
  simp
theorem idx_lt {t u : Dt} {p : Ad} (h : sub t p = some u) : idx t p + u.nodes ≤ t.nodes := by
  obtain ⟨A, B, e, l, _, _⟩ := block t p u h
  rw [← ad_len t, e, ← l, ← ad_len u]
  simp
/-- each address of the list leads to a node, and stands at its own number -/
theorem adF_sub : ∀ (t : Dt) (p : Ad), p ∈ adF t → ∃ u, sub t p = some u
  | x, q, h => by simp [adF] at h
  | o, q, h => by simp [adF] at h
  | c k r, q, h => by
    have h' : q ∈ (ad k).map (List.cons 0) ++ (adF r).map up := h
    rcases List.mem_append.mp h' with h | h
    · obtain ⟨p, hp, rfl⟩ := List.mem_map.mp h
      rcases List.mem_cons.mp hp with rfl | hp
      · exact ⟨k, sub_nil k⟩
      · exact adF_sub k p hp
    · obtain ⟨p, hp, rfl⟩ := List.mem_map.mp h
      obtain ⟨j, p', rfl⟩ := adF_cons r p hp
      exact adF_sub r (j :: p') hp
theorem ad_sub {t : Dt} {p : Ad} (h : p ∈ ad t) : ∃ u, sub t p = some u := by
  rcases List.mem_cons.mp h with rfl | h
  · exact ⟨t, sub_nil t⟩
  · exact adF_sub t p h
theorem sub_ad {t u : Dt} {p : Ad} (h : sub t p = some u) : p ∈ ad t := List.mem_of_getElem? (ad_at h)
/-! ### the order -/
def zs (p : Ad) : List Int := p.map (fun n : Nat => Int.ofNat n)
def lt (p q : Ad) : Bool := HT.lexLt (zs p) (zs q)
theorem lt_nil (j : Nat) (p : Ad) : lt [] (j :: p) = true := rfl
theorem nil_lt (p : Ad) : lt p [] = false := by cases p <;> rfl
theorem lt_cons (i j : Nat) (p q : Ad) : lt (i :: p) (j :: q) = if i = j then lt p q else decide (i < j) := by
  show (if Int.ofNat i = Int.ofNat j then HT.lexLt (zs p) (zs q) else decide (Int.ofNat i < Int.ofNat j)) = _
  have c1 : Int.ofNat i = (i : Int) := rfl
  have c2 : Int.ofNat j = (j : Int) := rfl
  rw [c1, c2]
  by_cases h : i = j
  · rw [if_pos h, if_pos (by omega)]; rfl
  · rw [if_neg h, if_neg (by omega)]
    by_cases h2 : i < j
    · rw [decide_eq_true h2, decide_eq_true (by omega)]
    · rw [decide_eq_false h2, decide_eq_false (by omega)]
theorem lt_irr : ∀ p : Ad, lt p p = false
  | [] => rfl
  | i :: p => by rw [lt_cons, if_pos rfl]; exact lt_irr p
theorem lt_asym : ∀ p q : Ad, lt p q = true → lt q p = false
  | [], [], h => rfl
  | [], _ :: _, h => rfl
  | _ :: _, [], h => nomatch h
  | i :: p, j :: q, h => by
    rw [lt_cons] at h ⊢
    by_cases e : i = j
    · rw [if_pos e] at h
      rw [if_pos e.symm]
      exact lt_asym p q h
    · rw [if_neg e] at h
      rw [if_neg (Ne.symm e)]
      have := of_decide_eq_true h
      exact decide_eq_false (by omega)
theorem up_lt (i j : Nat) (p q : Ad) : lt (up (i :: p)) (up (j :: q)) = lt (i :: p) (j :: q) := by
  show lt ((i + 1) :: p) ((j + 1) :: q) = _
  rw [lt_cons, lt_cons]
  by_cases e : i = j
  · rw [if_pos e, if_pos (by omega)]
  · rw [if_neg e, if_neg (by omega)]
    by_cases h2 : i < j
    · rw [decide_eq_true h2, decide_eq_true (by omega)]
    · rw [decide_eq_false h2, decide_eq_false (by omega)]
def Asc (l : List Ad) : Prop := l.Pairwise fun p q => lt p q = true
theorem adF_asc : ∀ t : Dt, Asc (ad t)
  | x => List.pairwise_singleton _ _
  | o => List.pairwise_singleton _ _
  | c k r => by
    have h1 := adF_asc k
    have h2 := adF_asc r
    rw [ad_c]
    refine List.pairwise_cons.mpr ⟨?_, List.pairwise_append.mpr ⟨?_, ?_, ?_⟩⟩
    · intro q hq
      have hq' : q ∈ adF (c k r) := hq
      obtain ⟨j, p, rfl⟩ := adF_cons _ q hq'
      rfl
    · refine List.pairwise_map.mpr (h1.imp ?_)
      intro a b h
      show lt (0 :: a) (0 :: b) = true
      rw [lt_cons, if_pos rfl]
      exact h
    · refine List.pairwise_map.mpr ?_
      have h3 := (List.pairwise_cons.mp h2).2
      refine h3.imp_of_mem ?_
      intro a b ha hb h
      obtain ⟨i, p, rfl⟩ := adF_cons _ a ha
      obtain ⟨j, q, rfl⟩ := adF_cons _ b hb
      rw [up_lt]
      exact h
    · intro a ha b hb
      obtain ⟨p, _, rfl⟩ := List.mem_map.mp ha
      obtain ⟨q, hq, rfl⟩ := List.mem_map.mp hb
      obtain ⟨j, q', rfl⟩ := adF_cons _ q hq
      show lt (0 :: p) ((j + 1) :: q') = true
      rw [lt_cons, if_neg (by omega)]
      exact decide_eq_true (by omega)
theorem ad_asc (t : Dt) : Asc (ad t) := adF_asc t
theorem ad_nodup (t : Dt) : (ad t).Nodup := (ad_asc t).imp fun {p q} h e => by
  rw [e, lt_irr] at h
  exact nomatch h
/-- the number of an address is where it stands -/
theorem idx_of {t : Dt} {p : Ad} {i : Nat} (h : (ad t)[i]? = some p) : idx t p = i := by
  obtain ⟨u, hu⟩ := ad_sub (List.mem_of_getElem? h)
  have h2 := ad_at hu
  obtain ⟨l1, e1⟩ := List.getElem?_eq_some_iff.mp h
  obtain ⟨l2, e2⟩ := List.getElem?_eq_some_iff.mp h2
  exact (List.getElem_inj (ad_nodup t)).mp (e2.trans e1.symm)
theorem idx_inj {t : Dt} {p q : Ad} (hp : p ∈ ad t) (hq : q ∈ ad t) (h : idx t p = idx t q) : p = q := by
  obtain ⟨u, hu⟩ := ad_sub hp
  obtain ⟨v, hv⟩ := ad_sub hq
  have h1 := ad_at hu
  have h2 := ad_at hv
  rw [h, h2] at h1
  exact (Option.some.inj h1).symm
/-- within: the numbers from its own to the last of its bough -/
theorem within {t u : Dt} {p q : Ad} (hp : sub t p = some u) (hq : q ∈ ad t) : (idx t p ≤ idx t q ∧ idx t q < idx t p + u.nodes) ↔ p <+: q := by
  constructor
  · rintro ⟨h1, h2⟩
    obtain ⟨v, hv⟩ := ad_sub hq
    have h3 := ad_at hv
    obtain ⟨A, B, e, l, _, _⟩ := block t p u hp
    rw [e, List.getElem?_append_right (by omega), List.getElem?_append_left (by rw [List.length_map, ad_len]; omega), List.getElem?_map] at h3
    obtain ⟨q', _, e'⟩ := Option.map_eq_some_iff.mp h3
    exact ⟨q', e'⟩
  · rintro ⟨q', rfl⟩
    obtain ⟨v, hv⟩ := ad_sub hq
    obtain ⟨a, b⟩ := sub_app t p u hp q'
    rw [a] at hv
    have h4 := idx_lt hv
    have := v.nodes_pos
    omega
/-- what lies above a node is a node -/
theorem sub_pre : ∀ (t : Dt) (p q : Ad) (u : Dt), sub t (p ++ q) = some u → ∃ v, sub t p = some v
  | t, [], q, u, h => ⟨t, sub_nil t⟩
  | c k r, 0 :: p, q, u, h => sub_pre k p q u h
  | c k r, (j + 1) :: p, q, u, h => sub_pre r (j :: p) q u h
  | o, j :: p, q, _, h => by rw [List.cons_append, sub_o] at h; cases h
  | x, j :: p, q, _, h => by rw [List.cons_append, sub_x] at h; cases h
theorem pre_ad {t : Dt} {p q : Ad} (h : q ∈ ad t) (hp : p <+: q) : p ∈ ad t := by
  obtain ⟨r, rfl⟩ := hp
  obtain ⟨u, hu⟩ := ad_sub h
  obtain ⟨v, hv⟩ := sub_pre t p r u hu
  exact sub_ad hv
/-! ### the children of a row -/
theorem sub_one : ∀ (t : Dt) (j : Nat), sub t [j] = t.kids[j]?
  | x, j => by cases j <;> rfl
  | o, j => by cases j <;> rfl
  | c k r, 0 => sub_nil k
  | c k r, j + 1 => by
    show sub r [j] = r.kids[j]?
    exact sub_one r j
theorem idx_one : ∀ (t : Dt) (j : Nat) (k : Dt), t.kids[j]? = some k → (j = 0 → idx t [j] = 1) ∧ idx t [j] + k.nodes ≤ t.nodes ∧ (∀ k', t.kids[j + 1]? = some k' → idx t [j + 1] = idx t [j] + k.nodes) ∧ (t.kids[j + 1]? = none → idx t [j] + k.nodes = t.nodes)
  | x, j, k, h => by cases j <;> exact nomatch h
  | o, j, k, h => by cases j <;> exact nomatch h
  | c k0 r, 0, k, h => by
    obtain rfl : k0 = k := Option.some.inj h
    have e0 : idx (c k0 r) [0] = 1 := by
      show 1 + idx k0 [] = 1
      rw [idx_nil]
    refine ⟨fun _ => e0, ?_, fun k' h' => ?_, fun h' => ?_⟩
    · rw [e0]
      show 1 + k0.nodes ≤ k0.nodes + r.nodes
      have := r.nodes_pos
      omega
    · have h2 : r.kids[0]? = some k' := h'
      have h3 := (idx_one r 0 k' h2).1 rfl
      rw [e0]
      show k0.nodes + idx r [0] = 1 + k0.nodes
      omega
    · have h2 : r.kids[0]? = none := h'
      have h3 : r.nodes = 1 := by
        cases r with
        | x => rfl
        | o => rfl
        | c a b => exact nomatch h2
      rw [e0]
      show 1 + k0.nodes = k0.nodes + r.nodes
      omega
  | c k0 r, j + 1, k, h => by
    have h2 : r.kids[j]? = some k := h
    obtain ⟨q0, q1, q2, q3⟩ := idx_one r j k h2
    have e0 : idx (c k0 r) [j + 1] = k0.nodes + idx r [j] := rfl
    refine ⟨fun z => by omega, ?_, fun k' h' => ?_, fun h' => ?_⟩
    · rw [e0]
      show k0.nodes + idx r [j] + k.nodes ≤ k0.nodes + r.nodes
      omega
    · have := q2 k' h'
      show k0.nodes + idx r [j + 1] = _
      omega
    · have := q3 h'
      rw [e0]
      show k0.nodes + idx r [j] + k.nodes = k0.nodes + r.nodes
      omega
/-! ### leaves -/
def isLf (t : Dt) (p : Ad) : Bool := match sub t p with | some u => u.len == 0 | none => false
def lv (t : Dt) : List Ad := (ad t).filter (isLf t)
def low (t : Dt) (p : Ad) : Nat := (((ad t).take (idx t p)).filter (isLf t)).length
def lf (t : Dt) : Nat := (lv t).length
theorem isLf_app {t u : Dt} {p : Ad} (h : sub t p = some u) (q : Ad) : isLf t (p ++ q) = isLf u q := by
  unfold isLf
  rw [(sub_app t p u h q).1]
theorem filter_blk {t u : Dt} {p : Ad} (h : sub t p = some u) : ((ad u).map (p ++ ·)).filter (isLf t) = (lv u).map (p ++ ·) := by
  unfold lv
  rw [List.filter_map]
  congr 1
  refine List.filter_congr fun q _ => ?_
  exact isLf_app h q
/-- the leaves ahead, within, behind -/
theorem lv_block {t u : Dt} {p : Ad} (h : sub t p = some u) : ∃ A B, lv t = A ++ ((lv u).map (p ++ ·) ++ B) ∧ A.length = low t p ∧ A = ((ad t).take (idx t p)).filter (isLf t) ∧ Off p A ∧ Off p B := by
  obtain ⟨A, B, e, l, oa, ob⟩ := block t p u h
  have et : (ad t).take (idx t p) = A := by rw [e, ← l]; simp
  refine ⟨A.filter (isLf t), B.filter (isLf t), ?_, ?_, by rw [et], fun q hq => oa q ((List.mem_filter.mp hq).1), fun q hq => ob q ((List.mem_filter.mp hq).1)⟩
  · rw [← filter_blk h, ← List.filter_append, ← List.filter_append, ← e]
    rfl
  · unfold low
    rw [et]
theorem low_le {t u : Dt} {p : Ad} (h : sub t p = some u) : low t p + lf u ≤ lf t := by
  obtain ⟨A, B, e, l, _⟩ := lv_block h
  unfold lf
  rw [e, ← l]
  simp
/-- the next at its side -/
theorem low_next {t u : Dt} {p q : Ad} (h : sub t p = some u) (e : idx t q = idx t p + u.nodes) : low t q = low t p + lf u := by
  obtain ⟨A, B, e1, l, oa, ob⟩ := block t p u h
  have et : (ad t).take (idx t p) = A := by rw [e1, ← l]; simp
  have et2 : (ad t).take (idx t q) = A ++ (ad u).map (p ++ ·) := by
    rw [e, e1, ← l, ← ad_len u, ← List.append_assoc]
    exact List.take_left' (by simp)
  unfold low
  rw [et2, et, List.filter_append, filter_blk h, List.length_append, List.length_map]
  rfl
theorem low_first {t : Dt} {p q : Ad} (hp : p ∈ ad t) (hl : isLf t p = false) (e : idx t q = idx t p + 1) : low t q = low t p := by
  obtain ⟨u, hu⟩ := ad_sub hp
  have h := ad_at hu
  unfold low
  rw [e, List.take_add_one, h]
  simp [hl]
theorem low_nil (t : Dt) : low t [] = 0 := by
  unfold low
  rw [idx_nil]
  rfl
theorem isLf_o {t u : Dt} {p : Ad} (h : sub t p = some u) : isLf t p = (u.len == 0) := by
  unfold isLf
  rw [h]
theorem lv_leaf {u : Dt} (h : u.len = 0) : lv u = [[]] ∧ ad u = [[]] := by
  cases u with
  | x => exact ⟨rfl, rfl⟩
  | o => exact ⟨rfl, rfl⟩
  | c k r => exact nomatch h
/-- the leaves below p in the order are those ahead of its bough -/
theorem low_lt {t : Dt} {p : Ad} (hp : p ∈ ad t) : ((lv t).filter fun q => lt q p).length = low t p := by
  obtain ⟨u, hu⟩ := ad_sub hp
  have hat := ad_at hu
  have hs : ad t = (ad t).take (idx t p) ++ p :: (ad t).drop (idx t p + 1) := by
    obtain ⟨hl, he⟩ := List.getElem?_eq_some_iff.mp hat
    conv => lhs; rw [← List.take_append_drop (idx t p) (ad t), List.drop_eq_getElem_cons hl, he]
  have ha := ad_asc t
  unfold Asc at ha
  rw [hs] at ha
  obtain ⟨_, h2, h3⟩ := List.pairwise_append.mp ha
  have h4 := (List.pairwise_cons.mp h2).1
  unfold lv low
  rw [List.filter_filter]
  conv => lhs; rw [hs]
  rw [List.filter_append, List.length_append]
  have e1 : List.filter (fun a => lt a p && isLf t a) ((ad t).take (idx t p)) = List.filter (isLf t) ((ad t).take (idx t p)) := by
    refine List.filter_congr fun q hq => ?_
    rw [h3 q hq p (by simp), Bool.true_and]
  have e2 : List.filter (fun a => lt a p && isLf t a) (p :: (ad t).drop (idx t p + 1)) = [] := by
    refine List.filter_eq_nil_iff.mpr fun q hq => ?_
    rcases List.mem_cons.mp hq with rfl | hq
    · rw [lt_irr]; simp
    · rw [lt_asym p q (h4 q hq)]; simp
  rw [e1, e2]
  rfl
theorem pre_take {p q : Ad} : (q.take p.length = p) ↔ p <+: q := by
  constructor
  · intro h
    have h2 := List.take_append_drop p.length q
    rw [h] at h2
    exact ⟨q.drop p.length, h2⟩
  · rintro ⟨r, rfl⟩
    simp
theorem high_pre {t u : Dt} {p : Ad} (h : sub t p = some u) : ((lv t).filter fun q => decide (q.take p.length = p)).length = lf u := by
  obtain ⟨A, B, e, l, _, oa, ob⟩ := lv_block h
  rw [e, List.filter_append, List.filter_append]
  have e1 : List.filter (fun q => decide (q.take p.length = p)) A = [] := List.filter_eq_nil_iff.mpr fun q hq => by
    rw [decide_eq_false (fun z => oa q hq (pre_take.mp z))]; simp
  have e2 : List.filter (fun q => decide (q.take p.length = p)) B = [] := List.filter_eq_nil_iff.mpr fun q hq => by
    rw [decide_eq_false (fun z => ob q hq (pre_take.mp z))]; simp
  have e3 : List.filter (fun q => decide (q.take p.length = p)) ((lv u).map (p ++ ·)) = (lv u).map (p ++ ·) := List.filter_eq_self.mpr fun q hq => by
    obtain ⟨q', _, rfl⟩ := List.mem_map.mp hq
    exact decide_eq_true (pre_take.mpr ⟨q', rfl⟩)
  rw [e1, e2, e3]
  simp [lf]
/-- a node is a leaf when the next address does not begin with its own -/
theorem leaf_next {t : Dt} {p : Ad} {i : Nat} (h : (ad t)[i]? = some p) : isLf t p = true ↔ ∀ q, (ad t)[i + 1]? = some q → ¬ p <+: q := by
  obtain ⟨u, hu⟩ := ad_sub (List.mem_of_getElem? h)
  have hi := idx_of h
  rw [isLf_o hu]
  constructor
  · intro e q hq hpq
    have hw := (within hu (List.mem_of_getElem? hq)).mpr hpq
    have hj := idx_of hq
    have : u.nodes = 1 := by
      cases u with
      | x => rfl
      | o => rfl
      | c k r => exact nomatch e
    omega
  · intro e
    cases u with
    | x => rfl
    | o => rfl
    | c k r =>
      exfalso
      obtain ⟨a, b⟩ := sub_app t p _ hu [0]
      have h1 : sub t (p ++ [0]) = some k := by rw [a]; exact sub_nil k
      have h2 := ad_at h1
      have h3 : idx (c k r) [0] = 1 := by
        show 1 + idx k [] = 1
        rw [idx_nil]
      rw [b, h3, hi] at h2
      exact e _ h2 ⟨[0], rfl⟩
/-! ### common beginnings -/
def lcp : Ad → Ad → Nat
  | i :: p, j :: q => if i = j then lcp p q + 1 else 0
  | _, _ => 0
theorem lcp_le : ∀ p q : Ad, lcp p q ≤ p.length ∧ lcp p q ≤ q.length
  | [], _ => ⟨Nat.zero_le _, Nat.zero_le _⟩
  | _ :: _, [] => ⟨Nat.zero_le _, Nat.zero_le _⟩
  | i :: p, j :: q => by
    have := lcp_le p q
    by_cases e : i = j <;> simp [lcp, e] <;> omega
/-- q begins with the first n of p just when n is at most the common length -/
theorem lcp_pre : ∀ (p q : Ad) (n : Nat), n ≤ p.length → (p.take n <+: q ↔ n ≤ lcp p q)
  | [], q, n, h => by
    have : n = 0 := by simpa using h
    subst this
    simp
  | i :: p, [], n, h => by
    cases n with
    | zero => simp
    | succ n => simp [lcp]
  | i :: p, j :: q, n, h => by
    cases n with
    | zero => simp
    | succ n =>
      have h' : n ≤ p.length := by simpa using h
      have ih := lcp_pre p q n h'
      rw [List.take_succ_cons, List.cons_prefix_cons]
      by_cases e : i = j
      · simp [lcp, e, ih]
      · simp [lcp, e]
/-- the law's count: the first place where they differ -/
theorem lcp_first (p q : Ad) (n : Nat) (hn : n < min p.length q.length) (h : p[n]? ≠ q[n]?) (ha : p.take n <+: q) : lcp p q = n := by
  have h1 := (lcp_pre p q n (by omega)).mp ha
  have h2 : ¬ n + 1 ≤ lcp p q := by
    intro z
    have h3 := (lcp_pre p q (n + 1) (by omega)).mpr z
    obtain ⟨r, hr⟩ := h3
    apply h
    rw [← hr, List.getElem?_append_left (by rw [List.length_take]; omega), List.getElem?_take]
    simp
  omega
end Dt
end K27
set_option Elab.async false
set_option linter.all false
set_option maxRecDepth 100000
set_option maxHeartbeats 4000000
namespace K27
open PySem PySem.Spec PyProof.Rows L2
/-! ### a ShapeTree in memory -/
/-- its attributes: the form, then ten lists -/
def stF (fv : V) (L : Nat → Addr) : List (Str × V) :=
  [("form", fv), ("boughs", .ref (L 0)), ("parents", .ref (L 1)), ("kids", .ref (L 2)), ("depths", .ref (L 3)), ("sides", .ref (L 4)), ("lows", .ref (L 5)), ("highs", .ref (L 6)), ("ends", .ref (L 7)), ("leaves", .ref (L 8)), ("paths", .ref (L 9))]
section
variable (fv : V) (L : Nat → Addr)
theorem stF_form : (stF fv L).lookup ("form" : Str) = some fv := by rfl
theorem stF_0 : (stF fv L).lookup ("boughs" : Str) = some (.ref (L 0)) := by rfl
theorem stF_1 : (stF fv L).lookup ("parents" : Str) = some (.ref (L 1)) := by rfl
theorem stF_2 : (stF fv L).lookup ("kids" : Str) = some (.ref (L 2)) := by rfl
theorem stF_3 : (stF fv L).lookup ("depths" : Str) = some (.ref (L 3)) := by rfl
theorem stF_4 : (stF fv L).lookup ("sides" : Str) = some (.ref (L 4)) := by rfl
theorem stF_5 : (stF fv L).lookup ("lows" : Str) = some (.ref (L 5)) := by rfl
theorem stF_6 : (stF fv L).lookup ("highs" : Str) = some (.ref (L 6)) := by rfl
theorem stF_7 : (stF fv L).lookup ("ends" : Str) = some (.ref (L 7)) := by rfl
theorem stF_8 : (stF fv L).lookup ("leaves" : Str) = some (.ref (L 8)) := by rfl
theorem stF_9 : (stF fv L).lookup ("paths" : Str) = some (.ref (L 9)) := by rfl
theorem stF_grow : (stF fv L).lookup ("_grow" : Str) = none := by rfl
end

theorem putF_new {f : Str} {v : V} : ∀ {fs : List (Str × V)}, (∀ g ∈ fs.map (·.1), ¬ g = f) → putF f v fs = fs ++ [(f, v)]
  | [], _ => rfl
  | (g, y) :: r, h => by
    show (if g = f then (g, v) :: r else (g, y) :: putF f v r) = _
    rw [if_neg (h g (by simp)), putF_new (fs := r) fun z hz => h z (by simp [hz])]
    rfl
structure TreeAt (C : Addr) (H : Hp) (a dx : Addr) (fv : V) (L : Nat → Addr) (S : Nat → List V) : Prop where
  ob : H a = some (.ins C dx (stF fv L))
  ls : ∀ i, i < 10 → H (L i) = some (.lst (S i))
  inj : ∀ i j, i < 10 → j < 10 → L i = L j → i = j
/-- what is no list of the tree stands as before -/
def Keep (L : Nat → Addr) (H H' : Hp) : Prop := ∀ y o, H y = some o → (∀ i, i < 10 → y ≠ L i) → H' y = some o
/-- tuples stand as before -/
def KeepT (H H' : Hp) : Prop := ∀ y xs, (H y = some (.tup xs) → H' y = some (.tup xs)) ∧ (∀ o, H y = some (.frz o (.tup xs)) → H' y = some (.frz o (.tup xs)))
theorem Keep.refl (L : Nat → Addr) (H : Hp) : Keep L H H := fun _ _ h _ => h
theorem Keep.trans {L : Nat → Addr} {H H1 H2 : Hp} (a : Keep L H H1) (b : Keep L H1 H2) : Keep L H H2 := fun y o h n => b y o (a y o h n) n
theorem Keep.same {L : Nat → Addr} {H H1 H2 : Hp} (a : Keep L H H1) (b : Same H1 H2) : Keep L H H2 := fun y o h n => b y o (a y o h n)
theorem KeepT.refl (H : Hp) : KeepT H H := fun _ _ => ⟨fun h => h, fun _ h => h⟩
theorem KeepT.trans {H H1 H2 : Hp} (a : KeepT H H1) (b : KeepT H1 H2) : KeepT H H2 := fun y xs => ⟨fun h => (b y xs).1 ((a y xs).1 h), fun o h => (b y xs).2 o ((a y xs).2 o h)⟩
theorem KeepT.of_same {H H' : Hp} (e : Same H H') : KeepT H H' := fun y xs => ⟨fun h => e _ _ h, fun o h => e _ _ h⟩
theorem TreeAt.keepT {C : Addr} {H H' : Hp} {a dx : Addr} {fv : V} {L : Nat → Addr} {S : Nat → List V} (t : TreeAt C H a dx fv L S) (k : Keep L H H') : KeepT H H' := fun y xs =>
  ⟨fun h => k y _ h (fun i hi e => by rw [e, t.ls i hi] at h; exact HO.noConfusion (Option.some.inj h)), fun o h => k y _ h (fun i hi e => by rw [e, t.ls i hi] at h; exact HO.noConfusion (Option.some.inj h))⟩
def st (S : Nat → List V) (i : Nat) (xs : List V) : Nat → List V := fun j => if j = i then xs else S j
theorem TreeAt.put {C : Addr} {H : Hp} {a dx : Addr} {fv : V} {L : Nat → Addr} {S : Nat → List V} (t : TreeAt C H a dx fv L S) {i : Nat} (hi : i < 10) (xs : List V) : TreeAt C (upd H (L i) (.lst xs)) a dx fv L (st S i xs) := by
  refine ⟨?_, fun j hj => ?_, t.inj⟩
  · rw [upd_ne]
    · exact t.ob
    · intro e
      have h := t.ls i hi
      rw [← e, t.ob] at h
      exact HO.noConfusion (Option.some.inj h)
  · unfold st
    by_cases e : j = i
    · subst e
      rw [upd_same, if_pos rfl]
    · rw [upd_ne (fun z => e (t.inj j i hj hi z)), if_neg e]
      exact t.ls j hj
theorem TreeAt.same {C : Addr} {H H' : Hp} {a dx : Addr} {fv : V} {L : Nat → Addr} {S : Nat → List V} (t : TreeAt C H a dx fv L S) (e : Same H H') : TreeAt C H' a dx fv L S := ⟨e _ _ t.ob, fun j hj => e _ _ (t.ls j hj), t.inj⟩
theorem Keep.put {L : Nat → Addr} {H H' : Hp} (k : Keep L H H') {i : Nat} (hi : i < 10) (o : HO) : Keep L H (upd H' (L i) o) := fun y u h n => by
  rw [upd_ne (n i hi)]
  exact k y u h n
theorem kt_sqt {K : PySem.W.Frag} {H H' : Hp} {a : Addr} {xs : List V} (e : KeepT H H') (h : SqT K H a xs) : SqT K H' a xs := by
  rcases h with (h | ⟨o, h⟩) | h
  · exact .inl (.inl ((e _ _).1 h))
  · exact .inl (.inr ⟨o, (e _ _).2 o h⟩)
  · exact .inr h
/-- a row of shapes -/
inductive ShF (K : PySem.W.Frag) (H : Hp) : List V → Dt → Prop
  | nil : ShF K H [] .o
  | cons {a : Addr} {vs ws : List V} {k r : Dt} (h : SqT K H a vs) (p : ShF K H vs k) (q : ShF K H ws r) : ShF K H (.ref a :: ws) (.c k r)
theorem ShF.keep {K : PySem.W.Frag} {H H' : Hp} (e : KeepT H H') {vs : List V} {t : Dt} (h : ShF K H vs t) : ShF K H' vs t := by
  induction h with
  | nil => exact .nil
  | cons h _ _ ih1 ih2 => exact .cons (kt_sqt e h) ih1 ih2
theorem ShF.dtf {K : PySem.W.Frag} {H : Hp} {vs : List V} {t : Dt} (h : ShF K H vs t) : DtF K H vs t := by
  induction h with
  | nil => exact .nil
  | cons h _ _ ih1 ih2 => exact .tup h ih1 ih2
theorem ShF.len {K : PySem.W.Frag} {H : Hp} {vs : List V} {t : Dt} (h : ShF K H vs t) : vs.length = t.len := h.dtf.len
/-- a shape -/
def ShV (K : PySem.W.Frag) (H : Hp) (v : V) (t : Dt) : Prop := ∃ a vs, v = .ref a ∧ SqT K H a vs ∧ ShF K H vs t
theorem ShV.keep {K : PySem.W.Frag} {H H' : Hp} (e : KeepT H H') {v : V} {t : Dt} (h : ShV K H v t) : ShV K H' v t := by
  obtain ⟨a, vs, h1, h2, h3⟩ := h
  exact ⟨a, vs, h1, kt_sqt e h2, h3.keep e⟩
theorem ShF.at {K : PySem.W.Frag} {H : Hp} {vs : List V} {t : Dt} (h : ShF K H vs t) : ∀ (i : Nat) (v : V), vs[i]? = some v → ∃ k, t.kids[i]? = some k ∧ ShV K H v k := by
  induction h with
  | nil => intro i v h; simp at h
  | @cons a vs ws k r h p q _ ih2 =>
    intro i v hi
    cases i with
    | zero =>
      obtain rfl : V.ref a = v := by simpa using hi
      exact ⟨k, rfl, a, vs, rfl, h, p⟩
    | succ i =>
      have hi' : ws[i]? = some v := by simpa using hi
      exact ih2 i v hi'
namespace Dt
/-- the greatest depth -/
def ht : Dt → Nat | c k r => max (k.ht + 1) r.ht | _ => 0
theorem ht_kid : ∀ (t : Dt) (i : Nat) (k : Dt), t.kids[i]? = some k → k.ht + 1 ≤ t.ht
  | x, i, k, h => by simp [kids] at h
  | o, i, k, h => by simp [kids] at h
  | c k0 r, 0, k, h => by
    obtain rfl : k0 = k := Option.some.inj h
    exact Nat.le_max_left _ _
  | c k0 r, i + 1, k, h => Nat.le_trans (ht_kid r i k h) (Nat.le_max_right _ _)
/-! the addresses child by child -/
def rowsN (f : Dt → List Ad) (u : Dt) : Nat → List Ad
  | 0 => []
  | i + 1 => rowsN f u i ++ match u.kids[i]? with | some k => (f k).map (List.cons i) | none => []
theorem rowsN_up (f : Dt → List Ad) (hf : ∀ t, ∀ q ∈ f t, True) (k r : Dt) : ∀ i, rowsN f (c k r) (i + 1) = (f k).map (List.cons 0) ++ (rowsN f r i).map up
  | 0 => by simp [rowsN, kids]
  | i + 1 => by
    have ih := rowsN_up f hf k r i
    show rowsN f (c k r) (i + 1) ++ _ = _
    rw [ih]
    show _ ++ (match r.kids[i]? with | some k => (f k).map (List.cons (i + 1)) | none => []) = _
    show _ = (f k).map (List.cons 0) ++ (rowsN f r i ++ match r.kids[i]? with | some k => (f k).map (List.cons i) | none => []).map up
    rw [List.map_append, List.append_assoc]
    congr 2
    cases r.kids[i]? with
    | none => rfl
    | some k' => simp [up, Function.comp_def]
theorem adF_rows : ∀ u : Dt, adF u = rowsN ad u u.len
  | x => rfl
  | o => rfl
  | c k r => by
    show (ad k).map (List.cons 0) ++ (adF r).map up = rowsN ad (c k r) (r.len + 1)
    rw [rowsN_up ad (fun _ _ _ => trivial), adF_rows r]
theorem ad_rows (u : Dt) : ad u = [] :: rowsN ad u u.len := by
  rw [← adF_rows]
  rfl
theorem lvF_rows : ∀ u : Dt, (adF u).filter (isLf u) = rowsN lv u u.len
  | x => rfl
  | o => rfl
  | c k r => by
    show ((ad k).map (List.cons 0) ++ (adF r).map up).filter (isLf (c k r)) = rowsN lv (c k r) (r.len + 1)
    rw [rowsN_up lv (fun _ _ _ => trivial), ← lvF_rows r, List.filter_append]
    congr 1
    · unfold lv
      rw [List.filter_map]
      rfl
    · rw [List.filter_map]
      congr 1
      refine List.filter_congr fun q hq => ?_
      obtain ⟨j, p, rfl⟩ := adF_cons r q hq
      rfl
theorem lv_rows (u : Dt) (h : u.len ≠ 0) : lv u = rowsN lv u u.len := by
  rw [← lvF_rows]
  unfold lv ad
  have : isLf u [] = false := by
    rw [isLf_o (sub_nil u)]
    simpa using h
  rw [List.filter_cons, this]
  rfl
theorem idx_rows (u : Dt) : ∀ i, i < u.len → idx u [i] = 1 + (rowsN ad u i).length
  | 0, h => by
    rw [← kids_len] at h
    exact (idx_one u 0 _ (List.getElem?_eq_getElem h)).1 rfl
  | i + 1, h => by
    have ih := idx_rows u i (by omega)
    rw [← kids_len] at h
    have h1 : u.kids[i]? = some u.kids[i] := List.getElem?_eq_getElem (by omega)
    have h2 : u.kids[i + 1]? = some u.kids[i + 1] := List.getElem?_eq_getElem h
    have h3 := (idx_one u i _ h1).2.2.1 _ h2
    rw [h3, ih]
    show 1 + (rowsN ad u i).length + _ = 1 + (rowsN ad u i ++ match u.kids[i]? with | some k => (ad k).map (List.cons i) | none => []).length
    rw [h1, List.length_append, List.length_map, ad_len]
    omega
theorem low_rows {T u : Dt} {p : Ad} (hp : sub T p = some u) : ∀ i, i < u.len → low T (p ++ [i]) = low T p + (rowsN lv u i).length
  | 0, h => by
    obtain ⟨a, b⟩ := sub_app T p u hp [0]
    have h' : 0 < u.kids.length := by rw [kids_len]; exact h
    have h1 := (idx_one u 0 _ (List.getElem?_eq_getElem h')).1 rfl
    refine (low_first (sub_ad hp) ?_ (by omega)).trans rfl
    rw [isLf_o hp]
    simp
    omega
  | i + 1, h => by
    have ih := low_rows hp i (by omega)
    have h' := h
    rw [← kids_len] at h'
    have h1 : u.kids[i]? = some u.kids[i] := List.getElem?_eq_getElem (by omega)
    have h2 : u.kids[i + 1]? = some u.kids[i + 1] := List.getElem?_eq_getElem h'
    have h3 := (idx_one u i _ h1).2.2.1 _ h2
    obtain ⟨a, b⟩ := sub_app T p u hp [i]
    obtain ⟨a2, b2⟩ := sub_app T p u hp [i + 1]
    rw [sub_one, h1] at a
    have h4 := low_next a (q := p ++ [i + 1]) (by omega)
    rw [h4, ih]
    show low T p + (rowsN lv u i).length + _ = low T p + (rowsN lv u i ++ match u.kids[i]? with | some k => (lv k).map (List.cons i) | none => []).length
    rw [h1, List.length_append, List.length_map]
    unfold lf
    omega
theorem rowsN_le {f : Dt → List Ad} {u : Dt} : ∀ {i j : Nat}, i ≤ j → (rowsN f u i).length ≤ (rowsN f u j).length
  | i, 0, h => by
    have : i = 0 := by omega
    subst this
    exact Nat.le_refl _
  | i, j + 1, h => by
    by_cases e : i = j + 1
    · subst e; exact Nat.le_refl _
    · refine Nat.le_trans (rowsN_le (j := j) (by omega)) ?_
      show _ ≤ (rowsN f u j ++ _).length
      rw [List.length_append]
      omega
end Dt
end K27
set_option Elab.async false
set_option linter.all false
set_option maxRecDepth 100000
set_option maxHeartbeats 4000000
namespace K27
open PySem PySem.Spec PyProof.Rows L2 Dt
/-! ### what the lists hold for a node -/
def pth (T : Dt) (p : Ad) (n : Nat) : List V := (List.range n).map fun k => V.int (T.idx (p.take k) : Nat)
def parV (T : Dt) (q : Ad) : V := if q = [] then .non else .int (T.idx q.dropLast : Nat)
def sideI (q : Ad) : Int := match q.getLast? with | some i => (i : Nat) | none => -1
def kidV (T : Dt) (q : Ad) (w : Dt) : List V := (List.range w.len).map fun j => V.int (T.idx (q ++ [j]) : Nat)
def Cell (K : PySem.W.Frag) (H : Hp) (T : Dt) : Nat → V → Ad → Prop
  | 0, v, q => ∃ w, T.sub q = some w ∧ ShV K H v w
  | 1, v, q => v = parV T q
  | 2, v, q => ∃ w b, T.sub q = some w ∧ v = .ref b ∧ SqT K H b (kidV T q w)
  | 3, v, q => v = .int (q.length : Nat)
  | 4, v, q => v = .int (sideI q)
  | 5, v, q => v = .int (T.low q : Nat)
  | 6, v, q => ∃ w, T.sub q = some w ∧ v = .int (T.low q + w.lf : Nat)
  | 7, v, q => ∃ w, T.sub q = some w ∧ v = .int (T.idx q + w.nodes : Nat)
  | 8, v, q => v = .int (T.idx q : Nat)
  | _, v, q => ∃ b, v = .ref b ∧ SqT K H b (pth T q (q.length + 1))
theorem Cell.keep {K : PySem.W.Frag} {H H' : Hp} {T : Dt} (e : KeepT H H') : ∀ (i : Nat) (v : V) (q : Ad), Cell K H T i v q → Cell K H' T i v q
  | 0, v, q, ⟨w, h1, h2⟩ => ⟨w, h1, h2.keep e⟩
  | 1, v, q, h => h
  | 2, v, q, ⟨w, b, h1, h2, h3⟩ => ⟨w, b, h1, h2, kt_sqt e h3⟩
  | 3, v, q, h => h
  | 4, v, q, h => h
  | 5, v, q, h => h
  | 6, v, q, h => h
  | 7, v, q, h => h
  | 8, v, q, h => h
  | _ + 9, v, q, ⟨b, h1, h2⟩ => ⟨b, h1, kt_sqt e h2⟩
def aof (i : Nat) : Dt → List Ad := if i < 8 then ad else lv
def start (T : Dt) (p : Ad) (i : Nat) : Nat := if i < 8 then T.idx p else T.low p
def Grown (K : PySem.W.Frag) (H : Hp) (T : Dt) (l : Nat → List Ad) (S S' : Nat → List V) : Prop := ∀ i, i < 10 → ∃ R, S' i = S i ++ R ∧ Paired (Cell K H T i) R (l i)
def spGrow (K : PySem.W.Frag) (C : Addr) (n : Nat) : Sp := fun vs H Q _ => ∃ (a b ab dx : Addr) (bs : List V) (T u : Dt) (p : Ad) (fv : V) (L : Nat → Addr) (S : Nat → List V),
  vs = [.ref a, .ref b, .ref ab, .int (sideI p)] ∧ TreeAt C H a dx fv L S ∧ SqT K H b bs ∧ ShF K H bs u ∧ SqT K H ab (pth T p p.length) ∧ T.sub p = some u ∧ T.nodes ≤ 1000 ∧ u.ht < n ∧ p.length + n ≤ 1000 ∧
  (∀ i, i < 10 → (S i).length = start T p i) ∧
  ∀ H' S', TreeAt C H' a dx fv L S' → Keep L H H' → Grown K H' T (fun i => ((aof i) u).map (p ++ ·)) S S' → Q .non H'
theorem rCatA_all {K : PySem.W.Frag} {H : Hp} {a b : Addr} {xs ys : List V} {Q : VK} (ha : SqT K H a xs) (hb : SqT K H b ys) (hz : xs.length + ys.length ≤ sizeLine) (h : ∀ tp H2, Same H H2 → SqT K H2 tp (xs ++ ys) → Q (.ref tp) H2) : rCatA K (.ref a) (.ref b) H Q := by
  refine ⟨a, b, xs, ys, rfl, rfl, ha, hb, hz, fun e => ?_, fun _ e => ?_, fun _ _ p hp => ?_⟩
  · subst e
    exact h b H (fun _ _ z => z) hb
  · subst e
    refine h a H (fun _ _ z => z) ?_
    rw [List.append_nil]
    exact ha
  · exact h p _ (same_new hp) (SqT.of upd_same)
theorem pe_conv {X : Cx} {e : Expr} {t t' : TE} (h : PE X e t) (c : ∀ σ H Q, t' σ H Q → t σ H Q) : PE X e t' := ⟨fun pins s σ H Q I k => h.run pins s σ H Q I (c σ H Q k)⟩
theorem ps_conv {X : Cx} {e : Stmt} {t t' : TS} (h : PS X e t) (c : ∀ D σ H, t' D σ H → t D σ H) : PS X e t' := ⟨fun pins s σ H D I k => h.run pins s σ H D I (c D σ H k)⟩
theorem ixN_nat {n j : Nat} (h : j < n) : ixN n (j : Int) = some j := by
  unfold ixN
  rw [if_pos (by omega), if_pos (by omega)]
  rfl
theorem atI_last {l : List V} {v : V} : atI (l ++ [v]) (-1) = some v := by
  unfold atI ixN
  rw [if_neg (by decide), if_pos (by rw [List.length_append]; show -((l.length + 1 : Nat) : Int) ≤ -1; omega)]
  show (l ++ [v])[(-1 + ((l ++ [v]).length : Int)).toNat]? = some v
  have : (-1 + ((l ++ [v]).length : Int)).toNat = l.length := by rw [List.length_append, List.length_singleton]; omega
  rw [this]
  simp
/-- t[-1] if t else None -/
def tLast (K : PySem.W.Frag) (i : Nat) : TE := fun σ H Q => ∃ ab xs, σ[i]? = some (some (.ref ab)) ∧ SqT K H ab xs ∧ Q (xs.getLast?.getD .non) H
/-- if not bough: self.leaves.append(node); self.paths.append(path) -/
def tLeafS (K : PySem.W.Frag) (C : Addr) : TS := fun D σ H => ∃ a dx b bs fv L S tp node, σ[0]? = some (some (.ref a)) ∧ σ[1]? = some (some (.ref b)) ∧ σ[4]? = some (some (.int node)) ∧ σ[5]? = some (some (.ref tp)) ∧ TreeAt C H a dx fv L S ∧ SqT K H b bs ∧ (S 8).length < sizeLine ∧ (S 9).length < sizeLine ∧
  ∀ H', TreeAt C H' a dx fv L (if bs = [] then st (st S 8 (S 8 ++ [.int node])) 9 (S 9 ++ [.ref tp]) else S) → Keep L H H' → D.nx σ H'
theorem len_lt_nodes : ∀ t : Dt, t.len < t.nodes
  | x => Nat.lt_succ_self 0
  | o => Nat.lt_succ_self 0
  | c k r => by
    have h1 := len_lt_nodes r
    have h2 := k.nodes_pos
    show r.len + 1 < k.nodes + r.nodes
    omega
theorem sideI_snoc (p : Ad) (i : Nat) : sideI (p ++ [i]) = (i : Nat) := by
  unfold sideI
  rw [List.getLast?_append]
  rfl
theorem pth_snoc (T : Dt) (p : Ad) (i : Nat) : pth T (p ++ [i]) (p ++ [i]).length = pth T p (p.length + 1) := by
  unfold pth
  rw [List.length_append, List.length_singleton]
  refine List.map_congr_left fun k hk => ?_
  have : k ≤ p.length := by
    have := List.mem_range.mp hk
    omega
  rw [List.take_append_of_le_length this]
theorem pth_last (T : Dt) (p : Ad) : (pth T p p.length).getLast?.getD .non = parV T p := by
  unfold parV pth
  rcases List.eq_nil_or_concat p with rfl | ⟨l, i, rfl⟩
  · rfl
  · rw [List.concat_eq_append, if_neg (by simp), List.length_append, List.length_singleton, List.range_succ, List.map_append, List.getLast?_append, List.dropLast_concat]
    simp
theorem rowsN_succ (f : Dt → List Ad) {u k : Dt} {i : Nat} (h : u.kids[i]? = some k) (p : Ad) : (rowsN f u (i + 1)).map (p ++ ·) = (rowsN f u i).map (p ++ ·) ++ (f k).map ((p ++ [i]) ++ ·) := by
  show (rowsN f u i ++ match u.kids[i]? with | some k => (f k).map (List.cons i) | none => []).map (p ++ ·) = _
  rw [h, List.map_append, List.map_map]
  congr 1
  refine List.map_congr_left fun q _ => ?_
  simp
theorem set_mid (l r : List V) (x y : V) (n : Nat) (h : l.length = n) : ((l ++ [x]) ++ r).set n y = l ++ (y :: r) := by
  subst h
  rw [List.append_assoc]
  rw [List.set_append_right _ _ (Nat.le_refl _)]
  simp
/-- what the walks ask of the class -/
structure TCl (K : PySem.W.Frag) (mg : Str → Option Value) (C fG : Addr) : Prop where
  cl : Cls K C
  mG : Meth K C "_grow" fG
  nF : NoAttr K C "form"
  n0 : NoAttr K C "boughs"
  n1 : NoAttr K C "parents"
  n2 : NoAttr K C "kids"
  n3 : NoAttr K C "depths"
  n4 : NoAttr K C "sides"
  n5 : NoAttr K C "lows"
  n6 : NoAttr K C "highs"
  n7 : NoAttr K C "ends"
  n8 : NoAttr K C "leaves"
  n9 : NoAttr K C "paths"
section
variable {P : Program} {w : World} {K : PySem.W.Frag} {mg : Str → Option Value} {base : Heap}
theorem ok_grow {C f : Addr} {fd : FuncData} {n : Nat} (F : Fun K "_grow" "ShapeTree._grow" s_ShapeTree_grow f fd) (b : Binds K fd ["self", "bough", "above", "side"] []) (G : FnOk P w K mg base CX0 n f fd ["self", "bough", "above", "side"] (spGrow K C n))
    (T : Txt K mg) (TC : TCl K mg C f) : FnOk P w K mg base CX0 (n + 1) f fd ["self", "bough", "above", "side"] (spGrow K C (n + 1)) := by
  refine F.ok sc_ShapeTree_grow (fun vs H Q E h => ?_) (fun cdv A outer s H vs Q E hr h => ?_)
  · obtain ⟨a, b, ab, dx, bs, T, u, p, fv, L, S, rfl, _⟩ := h
    rfl
  obtain ⟨a, b', ab, dx, bs, D, u, p, fv, L, S, rfl, TA, hb, hS, hab, hsub, hD, hht, hpl, hst, q⟩ := h
  refine ⟨_, pss_cons (ps_set (i := 4) sc_ShapeTree_grow.nd rfl (.inl rfl) (pe_callB call_len_seq (by rfl) T.len PySem.boot_len (pa_cons (pe_fld (pv 0) rfl) pa_nil)))
    (pss_cons (ps_set (i := 5) sc_ShapeTree_grow.nd rfl (.inl rfl) (pe_op op_catA (pv 2) (pe_tup (pa_cons (pv 4) pa_nil))))
    (pss_cons (ps_expr (pe_bm PySem.F.plainAttrs_list PySem.F.slot_list_append PySem.F.type_list_append mt_append (pe_fld (pv 0) rfl) (pa_cons (pv 1) pa_nil)))
    (pss_cons (ps_expr (pe_bm PySem.F.plainAttrs_list PySem.F.slot_list_append PySem.F.type_list_append mt_append (pe_fld (pv 0) rfl) (pa_cons (pe_conv (t' := tLast K 2) (pe_ifExp (pt_truth (pv 2) (by intro _; rfl)) (pe_ix ix_tup (pv 2) (pe_un un_neg pe_int) (fun _ _ => rfl)) pe_non) (by
      rintro σ H Q ⟨ab, xs, h1, h2, q⟩
      refine ⟨_, h1, !xs.isEmpty, .inr (.inl ⟨xs, h2, rfl⟩), ?_⟩
      rcases List.eq_nil_or_concat xs with rfl | ⟨l, v, rfl⟩
      · exact iteF q
      · rw [show (!(l.concat v).isEmpty) = true by simp]
        rw [List.concat_eq_append] at h2 q
        refine iteT ?_
        refine ⟨_, h1, _, rfl, _, _, _, _, rfl, rfl, h2, atI_last, ?_⟩
        rw [List.getLast?_append] at q
        exact q)) pa_nil)))
    (pss_cons (ps_expr (pe_bm PySem.F.plainAttrs_list PySem.F.slot_list_append PySem.F.type_list_append mt_append (pe_fld (pv 0) rfl) (pa_cons (pe_callB call_len_seq (by rfl) T.len PySem.boot_len (pa_cons (pv 2) pa_nil)) pa_nil)))
    (pss_cons (ps_expr (pe_bm PySem.F.plainAttrs_list PySem.F.slot_list_append PySem.F.type_list_append mt_append (pe_fld (pv 0) rfl) (pa_cons (pv 3) pa_nil)))
    (pss_cons (ps_expr (pe_bm PySem.F.plainAttrs_list PySem.F.slot_list_append PySem.F.type_list_append mt_append (pe_fld (pv 0) rfl) (pa_cons (pe_callB call_len_seq (by rfl) T.len PySem.boot_len (pa_cons (pe_fld (pv 0) rfl) pa_nil)) pa_nil)))
    (pss_cons (ps_expr (pe_bm PySem.F.plainAttrs_list PySem.F.slot_list_append PySem.F.type_list_append mt_append (pe_fld (pv 0) rfl) (pa_cons (pe_tup pa_nil) pa_nil)))
    (pss_cons (ps_expr (pe_bm PySem.F.plainAttrs_list PySem.F.slot_list_append PySem.F.type_list_append mt_append (pe_fld (pv 0) rfl) (pa_cons pe_int pa_nil)))
    (pss_cons (ps_expr (pe_bm PySem.F.plainAttrs_list PySem.F.slot_list_append PySem.F.type_list_append mt_append (pe_fld (pv 0) rfl) (pa_cons pe_int pa_nil)))
    (pss_cons (ps_conv (t' := tLeafS K C) (ps_if (pt_not (pt_truth (pv 1) (by intro _; rfl)))
      (pss_cons (ps_expr (pe_bm PySem.F.plainAttrs_list PySem.F.slot_list_append PySem.F.type_list_append mt_append (pe_fld (pv 0) rfl) (pa_cons (pv 4) pa_nil)))
      (pss_one (ps_expr (pe_bm PySem.F.plainAttrs_list PySem.F.slot_list_append PySem.F.type_list_append mt_append (pe_fld (pv 0) rfl) (pa_cons (pv 5) pa_nil))))) pss_nil) (by
      rintro D σ H ⟨a, dx, b, bs, fv, L, S, tp, node, e0, e1, e4, e5, TA, hb, z8, z9, q⟩
      refine ⟨_, e1, !bs.isEmpty, .inr (.inl ⟨bs, hb, rfl⟩), ?_⟩
      cases bs with
      | nil =>
        refine iteT ?_
        refine ⟨_, e0, a, C, dx, _, _, rfl, TA.ob, TC.cl, TC.n8, stF_8 _ _, .inl ⟨rfl, _, SqL.of (TA.ls 8 (by decide))⟩, _, e4, L 8, _, _, rfl, rfl, TA.ls 8 (by decide), z8, ?_⟩
        have TA1 := TA.put (i := 8) (by decide) (S 8 ++ [.int node])
        refine ⟨_, e0, a, C, dx, _, _, rfl, TA1.ob, TC.cl, TC.n9, stF_9 _ _, .inl ⟨rfl, _, SqL.of (TA1.ls 9 (by decide))⟩, _, e5, L 9, _, _, rfl, rfl, TA1.ls 9 (by decide), z9, ?_⟩
        refine q _ ?_ (((Keep.refl L H).put (i := 8) (by decide) _).put (i := 9) (by decide) _)
        rw [if_pos rfl]
        exact TA1.put (i := 9) (by decide) (S 9 ++ [.ref tp])
      | cons x r =>
        refine iteF ?_
        exact q _ (by rw [if_neg (by simp)]; exact TA) (Keep.refl L H)))
    (pss_cons (ps_set (i := 6) sc_ShapeTree_grow.nd rfl (.inl rfl) (pe_lst pa_nil))
    (pss_cons (ps_for PassesOwn.never rfl (pi_enumT (by rfl) T.enumerate (pa_cons (pv 1) pa_nil)) (pg_tup rfl (pgs_cons (pg_name (i := 7) sc_ShapeTree_grow.nd rfl (.inl rfl)) (pgs_cons (pg_name (i := 8) sc_ShapeTree_grow.nd rfl (.inl rfl)) pgs_nil)))
      (pss_cons (ps_expr (pe_bm PySem.F.plainAttrs_list PySem.F.slot_list_append PySem.F.type_list_append mt_append (pv 6) (pa_cons (pe_callB call_len_seq (by rfl) T.len PySem.boot_len (pa_cons (pe_fld (pv 0) rfl) pa_nil)) pa_nil)))
      (pss_one (ps_expr (pe_meth (pv 0) TC.cl TC.mG G hr b .nil pass0 (pa_cons (pv 8) (pa_cons (pv 5) (pa_cons (pv 7) pa_nil))))))))
    (pss_cons (ps_asg (pe_callTy call_tuple_of (by rfl) T.tuple PyProof.Rows.boot_tuple (pa_cons (pv 6) pa_nil)) (pg_sub (pe_fld (pv 0) rfl) (pv 4) set_list))
    (pss_cons (ps_asg (pe_callB call_len_seq (by rfl) T.len PySem.boot_len (pa_cons (pe_fld (pv 0) rfl) pa_nil)) (pg_sub (pe_fld (pv 0) rfl) (pv 4) set_list))
    (pss_one (ps_asg (pe_callB call_len_seq (by rfl) T.len PySem.boot_len (pa_cons (pe_fld (pv 0) rfl) pa_nil)) (pg_sub (pe_fld (pv 0) rfl) (pv 4) set_list))))))))))))))))), ?_⟩
  have hrec := sub_app D p u hsub
  have hidx := idx_lt hsub
  have hlow := low_le hsub
  have hun := u.nodes_pos
  have hlf : D.lf ≤ D.nodes := by
    rw [← ad_len]
    exact List.length_filter_le _ _
  have hsm : ∀ i, i < 10 → (S i).length ≤ 1000 := fun i hi => by
    rw [hst i hi]
    unfold start
    split <;> omega
  have sz : ∀ i, i < 10 → (S i).length < sizeLine := fun i hi => small1000 (hsm i hi)
  have hl0 : (S 0).length = D.idx p := hst 0 (by decide)
  -- node = len(self.boughs)
  refine ⟨_, rfl, a, C, dx, _, _, rfl, TA.ob, TC.cl, TC.n0, stF_0 _ _, L 0, _, rfl, .inl (SqL.of (TA.ls 0 (by decide))), ?_⟩
  rw [hl0]
  -- path = above + (node,)
  refine ⟨_, rfl, _, rfl, (by show 1 ≤ sizeLine; decide), fun t1 ht1 => ?_⟩
  have s1 : Same H (upd H t1 (.tup [.int (D.idx p : Nat)])) := same_new ht1
  have epl : (pth D p p.length).length = p.length := by unfold pth; rw [List.length_map, List.length_range]
  have epth : pth D p p.length ++ [V.int (D.idx p : Nat)] = pth D p (p.length + 1) := by
    unfold pth
    rw [List.range_succ, List.map_append, List.map_singleton, List.take_length]
  refine rCatA_all (same_sqt s1 hab) (SqT.of upd_same) (Nat.le_of_lt (small1000 (by rw [epl, List.length_singleton]; omega))) fun tp H2 s2' htp => ?_
  rw [epth] at htp
  have s2 : Same H H2 := s1.trans s2'
  have TA2 := TA.same s2
  have K2 : Keep L H2 H2 := Keep.refl L H2
  have hab2 := same_sqt s2 hab
  have hb2 := same_sqt s2 hb
  have hS2 : ShF K H2 bs u := hS.keep (KeepT.of_same s2)
  -- self.boughs.append(bough)
  refine ⟨_, rfl, a, C, dx, _, _, rfl, TA2.ob, TC.cl, TC.n0, stF_0 _ _, .inl ⟨rfl, _, SqL.of (TA2.ls 0 (by decide))⟩, _, rfl, L 0, _, _, rfl, rfl, TA2.ls 0 (by decide), sz 0 (by decide), ?_⟩
  have TA3 := TA2.put (i := 0) (by decide) (S 0 ++ [.ref b'])
  have K3 := K2.put (i := 0) (by decide) (.lst (S 0 ++ [.ref b']))
  revert TA3 K3
  generalize upd H2 (L 0) (.lst (S 0 ++ [.ref b'])) = H3
  intro TA3 K3
  have kt3 := kt_sqt (TA2.keepT K3) hab2
  -- parents
  have l3 : H3 (L 1) = some (.lst (S 1)) := TA3.ls 1 (by decide)
  refine ⟨_, rfl, a, C, dx, _, _, rfl, TA3.ob, TC.cl, TC.n1, stF_1 _ _, .inl ⟨rfl, _, SqL.of l3⟩, ab, _, rfl, kt3, L 1, _, _, rfl, rfl, l3, sz 1 (by decide), ?_⟩
  have TA4 := TA3.put (i := 1) (by decide) (S 1 ++ [(pth D p p.length).getLast?.getD .non])
  have K4 := K3.put (i := 1) (by decide) (.lst (S 1 ++ [(pth D p p.length).getLast?.getD .non]))
  revert TA4 K4
  generalize upd H3 (L 1) (.lst (S 1 ++ [(pth D p p.length).getLast?.getD .non])) = H4
  intro TA4 K4
  have kt4 := kt_sqt (TA2.keepT K4) hab2
  -- depths
  have l4 : H4 (L 3) = some (.lst (S 3)) := TA4.ls 3 (by decide)
  refine ⟨_, rfl, a, C, dx, _, _, rfl, TA4.ob, TC.cl, TC.n3, stF_3 _ _, .inl ⟨rfl, _, SqL.of l4⟩, _, rfl, ab, _, rfl, .inr kt4, L 3, _, _, rfl, rfl, l4, sz 3 (by decide), ?_⟩
  have TA5 := TA4.put (i := 3) (by decide) (S 3 ++ [.int ((pth D p p.length).length : Nat)])
  have K5 := K4.put (i := 3) (by decide) (.lst (S 3 ++ [.int ((pth D p p.length).length : Nat)]))
  revert TA5 K5
  generalize upd H4 (L 3) (.lst (S 3 ++ [.int ((pth D p p.length).length : Nat)])) = H5
  intro TA5 K5
  -- sides
  have l5 : H5 (L 4) = some (.lst (S 4)) := TA5.ls 4 (by decide)
  refine ⟨_, rfl, a, C, dx, _, _, rfl, TA5.ob, TC.cl, TC.n4, stF_4 _ _, .inl ⟨rfl, _, SqL.of l5⟩, _, rfl, L 4, _, _, rfl, rfl, l5, sz 4 (by decide), ?_⟩
  have TA6 := TA5.put (i := 4) (by decide) (S 4 ++ [.int (sideI p)])
  have K6 := K5.put (i := 4) (by decide) (.lst (S 4 ++ [.int (sideI p)]))
  revert TA6 K6
  generalize upd H5 (L 4) (.lst (S 4 ++ [.int (sideI p)])) = H6
  intro TA6 K6
  have m6 : H6 (L 8) = some (.lst (S 8)) := TA6.ls 8 (by decide)
  -- lows
  have l6 : H6 (L 5) = some (.lst (S 5)) := TA6.ls 5 (by decide)
  refine ⟨_, rfl, a, C, dx, _, _, rfl, TA6.ob, TC.cl, TC.n5, stF_5 _ _, .inl ⟨rfl, _, SqL.of l6⟩, _, rfl, a, C, dx, _, _, rfl, TA6.ob, TC.cl, TC.n8, stF_8 _ _, L 8, _, rfl, .inl (SqL.of m6), L 5, _, _, rfl, rfl, l6, sz 5 (by decide), ?_⟩
  have TA7 := TA6.put (i := 5) (by decide) (S 5 ++ [.int ((S 8).length : Nat)])
  have K7 := K6.put (i := 5) (by decide) (.lst (S 5 ++ [.int ((S 8).length : Nat)]))
  revert TA7 K7
  generalize upd H6 (L 5) (.lst (S 5 ++ [.int ((S 8).length : Nat)])) = H7
  intro TA7 K7
  -- kids
  have l7 : H7 (L 2) = some (.lst (S 2)) := TA7.ls 2 (by decide)
  refine ⟨_, rfl, a, C, dx, _, _, rfl, TA7.ob, TC.cl, TC.n2, stF_2 _ _, .inl ⟨rfl, _, SqL.of l7⟩, (by show 0 ≤ sizeLine; decide), fun t2 ht2 => ?_⟩
  have s7 : Same H7 (upd H7 t2 (.tup [])) := same_new ht2
  have TA7' := TA7.same s7
  have K7' := K7.same s7
  have l7' : (upd H7 t2 (.tup [])) (L 2) = some (.lst (S 2)) := s7 _ _ l7
  refine ⟨L 2, _, _, rfl, rfl, l7', sz 2 (by decide), ?_⟩
  have TA8 := TA7'.put (i := 2) (by decide) (S 2 ++ [.ref t2])
  have K8 := K7'.put (i := 2) (by decide) (.lst (S 2 ++ [.ref t2]))
  revert TA8 K8
  generalize upd (upd H7 t2 (.tup [])) (L 2) (.lst (S 2 ++ [.ref t2])) = H8
  intro TA8 K8
  -- highs
  have l8 : H8 (L 6) = some (.lst (S 6)) := TA8.ls 6 (by decide)
  refine ⟨_, rfl, a, C, dx, _, _, rfl, TA8.ob, TC.cl, TC.n6, stF_6 _ _, .inl ⟨rfl, _, SqL.of l8⟩, L 6, _, _, rfl, rfl, l8, sz 6 (by decide), ?_⟩
  have TA9 := TA8.put (i := 6) (by decide) (S 6 ++ [.int 0])
  have K9 := K8.put (i := 6) (by decide) (.lst (S 6 ++ [.int 0]))
  revert TA9 K9
  generalize upd H8 (L 6) (.lst (S 6 ++ [.int 0])) = H9
  intro TA9 K9
  -- ends
  have l9 : H9 (L 7) = some (.lst (S 7)) := TA9.ls 7 (by decide)
  refine ⟨_, rfl, a, C, dx, _, _, rfl, TA9.ob, TC.cl, TC.n7, stF_7 _ _, .inl ⟨rfl, _, SqL.of l9⟩, L 7, _, _, rfl, rfl, l9, sz 7 (by decide), ?_⟩
  have TA10 := TA9.put (i := 7) (by decide) (S 7 ++ [.int 0])
  have K10 := K9.put (i := 7) (by decide) (.lst (S 7 ++ [.int 0]))
  revert TA10 K10
  generalize upd H9 (L 7) (.lst (S 7 ++ [.int 0])) = H10
  intro TA10 K10
  -- if not bough
  have hb10 : SqT K H10 b' bs := kt_sqt (TA2.keepT K10) hb2
  refine ⟨a, dx, b', bs, fv, L, _, tp, _, rfl, rfl, rfl, rfl, TA10, hb10, sz 8 (by decide), sz 9 (by decide), fun H11 TA11 K11' => ?_⟩
  have hul : bs.length = u.len := hS.len
  have ex : ∃ S11 : Nat → List V, TreeAt C H11 a dx fv L S11 ∧ S11 0 = S 0 ++ [.ref b'] ∧ S11 1 = S 1 ++ [parV D p] ∧ (∃ o, S11 2 = S 2 ++ [o]) ∧ S11 3 = S 3 ++ [.int (p.length : Nat)] ∧ S11 4 = S 4 ++ [.int (sideI p)] ∧ S11 5 = S 5 ++ [.int (D.low p : Nat)] ∧
      (∃ o, S11 6 = S 6 ++ [o]) ∧ (∃ o, S11 7 = S 7 ++ [o]) ∧ S11 8 = (if bs = [] then S 8 ++ [.int (D.idx p : Nat)] else S 8) ∧ S11 9 = (if bs = [] then S 9 ++ [.ref tp] else S 9) := by
    refine ⟨_, TA11, ?_⟩
    rw [pth_last, epl, hst 8 (by decide)]
    by_cases e : bs = []
    · simp only [if_pos e]
      exact ⟨rfl, rfl, ⟨_, rfl⟩, rfl, rfl, rfl, ⟨_, rfl⟩, ⟨_, rfl⟩, rfl, rfl⟩
    · simp only [if_neg e]
      exact ⟨rfl, rfl, ⟨_, rfl⟩, rfl, rfl, rfl, ⟨_, rfl⟩, ⟨_, rfl⟩, rfl, rfl⟩
  clear TA11
  obtain ⟨S11, TA11, q0, q1, ⟨o2, q2⟩, q3, q4, q5, ⟨o6, q6⟩, ⟨o7, q7⟩, q8, q9⟩ := ex
  have K11 : Keep L H2 H11 := K10.trans K11'
  have hb11 : SqT K H11 b' bs := kt_sqt (TA2.keepT K11) hb2
  have hS11 : ShF K H11 bs u := hS2.keep (TA2.keepT K11)
  have htp11 : SqT K H11 tp (pth D p (p.length + 1)) := kt_sqt (TA2.keepT K11) htp
  have KH : Keep L H H11 := fun y o h n => K11 y o (s2 y o h) n
  clear TA3 TA4 TA5 TA6 TA7 TA7' TA8 TA9 TA10 K3 K4 K5 K6 K7 K7' K8 K9 K10 K11'
  have lS : ∀ k, k < 8 → (S11 k).length = D.idx p + 1 := by
    have e : ∀ k, k < 8 → (S k).length = D.idx p := fun k hk => by
      rw [hst k (by omega)]
      unfold start
      rw [if_pos hk]
    intro k hk
    match k, hk with
    | 0, h => rw [q0, List.length_append, e 0 h]; rfl
    | 1, h => rw [q1, List.length_append, e 1 h]; rfl
    | 2, h => rw [q2, List.length_append, e 2 h]; rfl
    | 3, h => rw [q3, List.length_append, e 3 h]; rfl
    | 4, h => rw [q4, List.length_append, e 4 h]; rfl
    | 5, h => rw [q5, List.length_append, e 5 h]; rfl
    | 6, h => rw [q6, List.length_append, e 6 h]; rfl
    | 7, h => rw [q7, List.length_append, e 7 h]; rfl
  have lS8 : ∀ k, k = 8 ∨ k = 9 → (S11 k).length = D.low p + (if bs = [] then 1 else 0) := by
    rintro k (rfl | rfl)
    · rw [q8]
      have e := hst 8 (by decide)
      unfold start at e
      rw [if_neg (by decide)] at e
      split
      · rw [List.length_append, e]; rfl
      · exact e
    · rw [q9]
      have e := hst 9 (by decide)
      unfold start at e
      rw [if_neg (by decide)] at e
      split
      · rw [List.length_append, e]; rfl
      · exact e
  -- kids = []; for place, kid in enumerate(bough)
  refine ⟨(by show 0 ≤ sizeLine; decide), fun lk hlk => ?_⟩
  have s12 : Same H11 (upd H11 lk (.lst [])) := same_new hlk
  have lkL : ∀ i, i < 10 → lk ≠ L i := fun i hi e => by
    rw [e, TA11.ls i hi] at hlk
    exact nomatch hlk
  have lka : lk ≠ a := fun e => by
    rw [e, TA11.ob] at hlk
    exact nomatch hlk
  refine ⟨_, rfl, b', bs, rfl, same_sqt s12 hb11, for_it walk_enumT (fun i σ H' => ∃ (S' : Nat → List V) (o7 o8 : Option V), σ = [some (.ref a), some (.ref b'), some (.ref ab), some (.int (sideI p)), some (.int (D.idx p : Nat)), some (.ref tp), some (.ref lk), o7, o8] ∧
    TreeAt C H' a dx fv L S' ∧ Keep L H11 H' ∧ H' lk = some (.lst ((List.range i).map fun j => V.int (D.idx (p ++ [j]) : Nat))) ∧ Grown K H' D (fun k => (rowsN (aof k) u i).map (p ++ ·)) S11 S')
    ⟨S11, none, none, rfl, TA11.same s12, fun y o h _ => s12 _ _ h, upd_same, fun k _ => ⟨[], (List.append_nil _).symm, .nil⟩⟩ (fun i σ H' _ ⟨_, _, _, _, _, k, _⟩ => kt_sqt (TA11.keepT k) hb11) ?_ ?_⟩
  · rintro i y σ H' H'' hi ⟨S', o7, o8, rfl, TA', K', hlk', G'⟩ hY
    obtain ⟨T0, x', y', rfl, hT0, rfl, hx', hy'⟩ := hY
    obtain rfl : V.int (i : Nat) = x' := Option.some.inj hx'
    obtain ⟨kd, hkd, bk, ks, rfl, hsk, hFk⟩ := hS11.at i y' hy'
    have sT : Same H' (upd H' T0 (.tup [.int (i : Nat), .ref bk])) := same_new hT0
    have hiu : i < u.len := by omega
    have eidx := idx_rows u i hiu
    have elow := low_rows hsub i hiu
    obtain ⟨er1, er2⟩ := hrec [i]
    have hsub' : D.sub (p ++ [i]) = some kd := by
      rw [er1, sub_one]
      exact hkd
    have hbs : bs ≠ [] := fun e => by
      rw [e] at hi
      exact absurd hi (Nat.not_lt_zero _)
    have ln : ∀ k, k < 10 → (S' k).length = start D (p ++ [i]) k := by
      intro k hk
      obtain ⟨R, eR, pR⟩ := G' k hk
      have e1 := Paired.len pR
      rw [List.length_map] at e1
      rw [eR, List.length_append, e1]
      unfold start
      by_cases h8 : k < 8
      · rw [lS k h8, if_pos h8, er2, eidx]
        unfold aof
        rw [if_pos h8]
        omega
      · rw [lS8 k (by omega), if_neg h8, if_neg hbs, elow]
        unfold aof
        rw [if_neg h8]
        omega
    have l0 : (S' 0).length = D.idx (p ++ [i]) := ln 0 (by decide)
    have TAT := TA'.same sT
    -- kids.append(len(self.boughs))
    have hlkT := sT _ _ hlk'
    have hiN : i < D.nodes := by
      have := len_lt_nodes u
      omega
    refine ⟨T0, _, rfl, SqT.of upd_same, rfl, _, _, rfl, _, _, rfl, rfl, ?_⟩
    refine ⟨_, rfl, .inl ⟨rfl, _, SqL.of hlkT⟩, _, rfl, a, C, dx, _, _, rfl, TAT.ob, TC.cl, TC.n0, stF_0 _ _, L 0, _, rfl, .inl (SqL.of (TAT.ls 0 (by decide))), lk, _, _, rfl, rfl, hlkT, small1000 (by rw [List.length_map, List.length_range]; omega), ?_⟩
    rw [l0]
    have eks : ((List.range i).map fun j => V.int (D.idx (p ++ [j]) : Nat)) ++ [V.int (D.idx (p ++ [i]) : Nat)] = (List.range (i + 1)).map fun j => V.int (D.idx (p ++ [j]) : Nat) := by
      rw [List.range_succ, List.map_append, List.map_singleton]
    rw [eks]
    have TAU : TreeAt C (upd (upd H' T0 (.tup [.int (i : Nat), .ref bk])) lk (.lst ((List.range (i + 1)).map fun j => V.int (D.idx (p ++ [j]) : Nat)))) a dx fv L S' :=
      ⟨by rw [upd_ne (Ne.symm lka)]; exact TAT.ob, fun j hj => by rw [upd_ne (Ne.symm (lkL j hj))]; exact TAT.ls j hj, TAT.inj⟩
    have KU : Keep L H11 (upd (upd H' T0 (.tup [.int (i : Nat), .ref bk])) lk (.lst ((List.range (i + 1)).map fun j => V.int (D.idx (p ++ [j]) : Nat)))) := fun y o h n => by
      rw [upd_ne (ne_of_none h hlk)]
      exact sT _ _ (K' y o h n)
    have lkU : (upd (upd H' T0 (.tup [.int (i : Nat), .ref bk])) lk (.lst ((List.range (i + 1)).map fun j => V.int (D.idx (p ++ [j]) : Nat)))) lk = _ := upd_same
    have tU : KeepT H' (upd (upd H' T0 (.tup [.int (i : Nat), .ref bk])) lk (.lst ((List.range (i + 1)).map fun j => V.int (D.idx (p ++ [j]) : Nat)))) := fun y xs =>
      ⟨fun h => by rw [upd_ne (fun e => by rw [e, hlk'] at h; exact HO.noConfusion (Option.some.inj h))]; exact sT _ _ h, fun o h => by rw [upd_ne (fun e => by rw [e, hlk'] at h; exact HO.noConfusion (Option.some.inj h))]; exact sT _ _ h⟩
    revert TAU KU lkU tU
    generalize upd (upd H' T0 (.tup [.int (i : Nat), .ref bk])) lk (.lst ((List.range (i + 1)).map fun j => V.int (D.idx (p ++ [j]) : Nat))) = HU
    intro TAU KU lkU tU
    -- self._grow(kid, path, place)
    have kU := TA11.keepT KU
    refine ⟨_, rfl, a, dx, _, rfl, TAU.ob, stF_grow _ _, _, rfl, _, rfl, _, rfl, a, bk, tp, dx, ks, D, kd, p ++ [i], fv, L, S', congrArg (fun z => [V.ref a, V.ref bk, V.ref tp, V.int z]) (sideI_snoc p i).symm, TAU, kt_sqt kU hsk, hFk.keep kU, by rw [pth_snoc]; exact kt_sqt kU htp11, hsub', hD, ?_, ?_, ln, fun H3 S3 TA3 K3 G3 => ?_⟩
    · have := ht_kid u i kd hkd
      omega
    · rw [List.length_append, List.length_singleton]
      omega
    refine ⟨S3, _, _, rfl, TA3, KU.trans K3, K3 _ _ lkU lkL, fun k hk => ?_⟩
    obtain ⟨R1, eR1, pR1⟩ := G' k hk
    obtain ⟨R2, eR2, pR2⟩ := G3 k hk
    refine ⟨R1 ++ R2, by rw [eR2, eR1, List.append_assoc], ?_⟩
    show Paired (Cell K H3 D k) (R1 ++ R2) ((rowsN (aof k) u (i + 1)).map fun x => p ++ x)
    rw [rowsN_succ _ hkd]
    exact Paired.app (Paired.mono (fun v q c => Cell.keep (tU.trans (TAU.keepT K3)) k v q c) pR1) pR2
  · rintro σ H' ⟨S', o7, o8, rfl, TA', K', hlk', G'⟩
    rw [hul] at hlk' G'
    have kt' := TA11.keepT K'
    have hn8 : ∀ k, k < 8 → (S' k).length = D.idx p + u.nodes := by
      intro k hk
      obtain ⟨R, eR, pR⟩ := G' k (by omega)
      have e1 := Paired.len pR
      rw [List.length_map] at e1
      have e2 := ad_len u
      rw [ad_rows, List.length_cons] at e2
      rw [eR, List.length_append, e1, lS k hk]
      unfold aof
      rw [if_pos hk]
      omega
    have hq8 : (S' 8).length = D.low p + u.lf := by
      obtain ⟨R, eR, pR⟩ := G' 8 (by decide)
      have e1 := Paired.len pR
      rw [List.length_map] at e1
      rw [eR, List.length_append, e1, lS8 8 (.inl rfl), show aof 8 = lv from rfl]
      by_cases e : bs = []
      · rw [if_pos e]
        have e3 : u.len = 0 := by rw [← hul, e]; rfl
        rw [e3]
        unfold lf
        rw [(lv_leaf e3).1]
        rfl
      · rw [if_neg e]
        have e3 : u.len ≠ 0 := fun z => e (List.eq_nil_of_length_eq_zero (by omega))
        unfold lf
        rw [← lv_rows u e3]
        rfl
    have jn : D.idx p < D.idx p + u.nodes := by omega
    -- self.kids[node] = tuple(kids)
    refine ⟨_, rfl, lk, _, rfl, .inl ⟨SqL.of hlk', fun t3 ht3 => ?_⟩⟩
    have sA : Same H' (upd H' t3 (.tup ((List.range u.len).map fun j => V.int (D.idx (p ++ [j]) : Nat)))) := same_new ht3
    have TAA := TA'.same sA
    have mA := TAA.ls 2 (by decide)
    refine ⟨_, rfl, a, C, dx, _, _, rfl, TAA.ob, TC.cl, TC.n2, stF_2 _ _, _, rfl, L 2, _, _, D.idx p, rfl, rfl, mA, ixN_nat (by rw [hn8 2 (by decide)]; exact jn), ?_⟩
    have TAB := TAA.put (i := 2) (by decide) ((S' 2).set (D.idx p) (.ref t3))
    have KB := ((Keep.refl L H').same sA).put (i := 2) (by decide) (.lst ((S' 2).set (D.idx p) (.ref t3)))
    have hB3 : (upd (upd H' t3 (.tup ((List.range u.len).map fun j => V.int (D.idx (p ++ [j]) : Nat)))) (L 2) (.lst ((S' 2).set (D.idx p) (.ref t3)))) t3 = some (.tup (kidV D p u)) := by
      rw [upd_ne, upd_same]
      · rfl
      · intro e
        rw [e, TA'.ls 2 (by decide)] at ht3
        exact nomatch ht3
    revert TAB KB hB3
    generalize upd (upd H' t3 (.tup ((List.range u.len).map fun j => V.int (D.idx (p ++ [j]) : Nat)))) (L 2) (.lst ((S' 2).set (D.idx p) (.ref t3))) = HB
    intro TAB KB hB3
    -- self.highs[node] = len(self.leaves)
    have mB : HB (L 8) = some (.lst (S' 8)) := TAB.ls 8 (by decide)
    have mB6 : HB (L 6) = some (.lst (S' 6)) := TAB.ls 6 (by decide)
    refine ⟨_, rfl, a, C, dx, _, _, rfl, TAB.ob, TC.cl, TC.n8, stF_8 _ _, L 8, _, rfl, .inl (SqL.of mB), _, rfl, a, C, dx, _, _, rfl, TAB.ob, TC.cl, TC.n6, stF_6 _ _, _, rfl, L 6, _, _, D.idx p, rfl, rfl, mB6, ixN_nat (by rw [hn8 6 (by decide)]; exact jn), ?_⟩
    rw [hq8]
    have TAC := TAB.put (i := 6) (by decide) ((S' 6).set (D.idx p) (.int (D.low p + u.lf : Nat)))
    have KC := KB.put (i := 6) (by decide) (.lst ((S' 6).set (D.idx p) (.int (D.low p + u.lf : Nat))))
    have hC3 := (TAB.keepT ((Keep.refl L HB).put (i := 6) (by decide) (.lst ((S' 6).set (D.idx p) (.int (D.low p + u.lf : Nat)))))  t3 _).1 hB3
    revert TAC KC hC3
    generalize upd HB (L 6) (.lst ((S' 6).set (D.idx p) (.int (D.low p + u.lf : Nat)))) = HC
    intro TAC KC hC3
    -- self.ends[node] = len(self.boughs)
    have mC : HC (L 0) = some (.lst (S' 0)) := TAC.ls 0 (by decide)
    have mC7 : HC (L 7) = some (.lst (S' 7)) := TAC.ls 7 (by decide)
    refine ⟨_, rfl, a, C, dx, _, _, rfl, TAC.ob, TC.cl, TC.n0, stF_0 _ _, L 0, _, rfl, .inl (SqL.of mC), _, rfl, a, C, dx, _, _, rfl, TAC.ob, TC.cl, TC.n7, stF_7 _ _, _, rfl, L 7, _, _, D.idx p, rfl, rfl, mC7, ixN_nat (by rw [hn8 7 (by decide)]; exact jn), ?_⟩
    rw [hn8 0 (by decide)]
    have TAD := TAC.put (i := 7) (by decide) ((S' 7).set (D.idx p) (.int (D.idx p + u.nodes : Nat)))
    have KD := KC.put (i := 7) (by decide) (.lst ((S' 7).set (D.idx p) (.int (D.idx p + u.nodes : Nat))))
    have hD3 := (TAC.keepT ((Keep.refl L HC).put (i := 7) (by decide) (.lst ((S' 7).set (D.idx p) (.int (D.idx p + u.nodes : Nat)))))  t3 _).1 hC3
    revert TAD KD hD3
    generalize upd HC (L 7) (.lst ((S' 7).set (D.idx p) (.int (D.idx p + u.nodes : Nat)))) = HD
    intro TAD KD hD3
    refine q HD _ TAD ((KH.trans K').trans KD) ?_
    have ktD := TA'.keepT KD
    have cells : ∀ k, k < 8 → ∀ R, Paired (Cell K H' D k) R ((rowsN (aof k) u u.len).map (p ++ ·)) → ∀ v, Cell K HD D k v p → Paired (Cell K HD D k) (v :: R) ((aof k u).map (p ++ ·)) := by
      intro k hk R pR v hv
      have e : aof k u = [] :: rowsN (aof k) u u.len := by
        unfold aof
        rw [if_pos hk]
        exact ad_rows u
      rw [e, List.map_cons, List.append_nil]
      exact .cons hv (Paired.mono (fun v q c => Cell.keep ktD k v q c) pR)
    have cellsL : ∀ k, k = 8 ∨ k = 9 → ∀ R, Paired (Cell K H' D k) R ((rowsN (aof k) u u.len).map (p ++ ·)) → ∀ v, Cell K HD D k v p → ∃ R', (if bs = [] then S k ++ [v] else S k) ++ R = S k ++ R' ∧ Paired (Cell K HD D k) R' ((aof k u).map (p ++ ·)) := by
      intro k hk R pR v hv
      have ea : aof k = lv := by
        unfold aof
        rw [if_neg (by omega)]
      rw [ea] at pR ⊢
      by_cases e : bs = []
      · have e3 : u.len = 0 := by rw [← hul, e]; rfl
        rw [e3] at pR
        have pR' : Paired (Cell K H' D k) R [] := pR
        cases pR'
        refine ⟨[v], by rw [if_pos e, List.append_nil], ?_⟩
        rw [(lv_leaf e3).1]
        show Paired _ [v] [p ++ []]
        rw [List.append_nil]
        exact .cons hv .nil
      · have e3 : u.len ≠ 0 := fun z => e (List.eq_nil_of_length_eq_zero (by omega))
        refine ⟨R, by rw [if_neg e], ?_⟩
        rw [lv_rows u e3]
        exact Paired.mono (fun v q c => Cell.keep ktD k v q c) pR
    have hl : ∀ k, k < 8 → (S k).length = D.idx p := fun k hk => by
      rw [hst k (by omega)]
      unfold start
      rw [if_pos hk]
    intro k hk
    obtain ⟨R, eR, pR⟩ := G' k hk
    have htpD : SqT K HD tp (pth D p (p.length + 1)) := kt_sqt (kt'.trans ktD) htp11
    have hbD : SqT K HD b' bs := kt_sqt (kt'.trans ktD) hb11
    have hFD : ShF K HD bs u := hS11.keep (kt'.trans ktD)
    match k, hk, eR, pR with
    | 0, _, eR, pR => exact ⟨.ref b' :: R, by show S' 0 = _; rw [eR, q0]; simp, cells 0 (by decide) R pR _ ⟨u, hsub, b', bs, rfl, hbD, hFD⟩⟩
    | 1, _, eR, pR => exact ⟨parV D p :: R, by show S' 1 = _; rw [eR, q1]; simp, cells 1 (by decide) R pR _ rfl⟩
    | 2, _, eR, pR => exact ⟨.ref t3 :: R, by show (S' 2).set (D.idx p) (.ref t3) = _; rw [eR, q2]; exact set_mid _ _ _ _ _ (hl 2 (by decide)), cells 2 (by decide) R pR _ ⟨u, t3, hsub, rfl, SqT.of hD3⟩⟩
    | 3, _, eR, pR => exact ⟨.int (p.length : Nat) :: R, by show S' 3 = _; rw [eR, q3]; simp, cells 3 (by decide) R pR _ rfl⟩
    | 4, _, eR, pR => exact ⟨.int (sideI p) :: R, by show S' 4 = _; rw [eR, q4]; simp, cells 4 (by decide) R pR _ rfl⟩
    | 5, _, eR, pR => exact ⟨.int (D.low p : Nat) :: R, by show S' 5 = _; rw [eR, q5]; simp, cells 5 (by decide) R pR _ rfl⟩
    | 6, _, eR, pR => exact ⟨.int (D.low p + u.lf : Nat) :: R, by show (S' 6).set (D.idx p) _ = _; rw [eR, q6]; exact set_mid _ _ _ _ _ (hl 6 (by decide)), cells 6 (by decide) R pR _ ⟨u, hsub, rfl⟩⟩
    | 7, _, eR, pR => exact ⟨.int (D.idx p + u.nodes : Nat) :: R, by show (S' 7).set (D.idx p) _ = _; rw [eR, q7]; exact set_mid _ _ _ _ _ (hl 7 (by decide)), cells 7 (by decide) R pR _ ⟨u, hsub, rfl⟩⟩
    | 8, _, eR, pR =>
      obtain ⟨R', e1, e2⟩ := cellsL 8 (.inl rfl) R pR (.int (D.idx p : Nat)) rfl
      exact ⟨R', by show S' 8 = _; rw [eR, q8]; exact e1, e2⟩
    | 9, _, eR, pR =>
      obtain ⟨R', e1, e2⟩ := cellsL 9 (.inr rfl) R pR (.ref tp) ⟨tp, rfl, htpD⟩
      exact ⟨R', by show S' 9 = _; rw [eR, q9]; exact e1, e2⟩
end
end K27
set_option Elab.async false
set_option linter.all false
set_option maxRecDepth 100000
set_option maxHeartbeats 4000000
namespace K27
open PySem PySem.Spec PyProof.Rows L2 Dt
theorem DtF.good {K : PySem.W.Frag} {H : Hp} {vs : List V} {t : Dt} (h : DtF K H vs t) : t.deep 1 = true → ShF K H vs t := by
  induction h with
  | nil => exact fun _ => .nil
  | bad h n q ih =>
    intro g
    exact nomatch (show (false : Bool) = true by simpa [Dt.deep, Dt.here, Dt.isx] using g)
  | @tup a vs ws k r h p q ih1 ih2 =>
    intro g
    have g' : (here 1 k && deep 1 k && deep 1 r) = true := g
    simp only [Bool.and_eq_true] at g'
    exact .cons h (ih1 g'.1.2) (ih2 g'.2)
theorem DtV.good {K : PySem.W.Frag} {H : Hp} {v : V} {t : Dt} (h : DtV K H v t) (g : t.good 1 = true) : ShV K H v t := by
  rcases h with ⟨rfl, _⟩ | ⟨a, vs, h1, h2, h3⟩
  · exact nomatch (show (false : Bool) = true by simpa [Dt.good, Dt.here, Dt.isx] using g)
  · unfold Dt.good at g
    rw [Bool.and_eq_true] at g
    exact ⟨a, vs, h1, h2, h3.good g.2⟩
theorem getD_at (l : List Addr) (i : Nat) (h : i < l.length) : l.getD i 0 = l[i] := by
  simp [List.getElem?_eq_getElem h]
/-- the lists of a whole tree -/
def Full (K : PySem.W.Frag) (H : Hp) (T : Dt) (S : Nat → List V) : Prop := ∀ i, i < 10 → Paired (Cell K H T i) (S i) (aof i T)
structure InitAt (C : Addr) (H0 H : Hp) (a dx : Addr) (fs : List (Str × V)) (ls : List Addr) : Prop where
  ob : H a = some (.ins C dx fs)
  em : ∀ l ∈ ls, H l = some (.lst [])
  nd : ls.Nodup
  kp : ∀ y o, H0 y = some o → y ≠ a → H y = some o
  fr : ∀ l ∈ ls, H0 l = none
theorem InitAt.step {C : Addr} {H0 H : Hp} {a dx l : Addr} {fs fs' : List (Str × V)} {ls : List Addr} (h : InitAt C H0 H a dx fs ls) (hl : H l = none) : (upd H l (.lst [])) a = some (.ins C dx fs) ∧ InitAt C H0 (upd (upd H l (.lst [])) a (.ins C dx fs')) a dx fs' (ls ++ [l]) := by
  have ela : l ≠ a := fun e => by
    rw [e, h.ob] at hl
    exact nomatch hl
  have hnl : ∀ m ∈ ls, m ≠ l := fun m hm e => by
    have := h.em m hm
    rw [e, hl] at this
    exact nomatch this
  refine ⟨by rw [upd_ne (Ne.symm ela)]; exact h.ob, upd_same, fun m hm => ?_, ?_, fun y o e hy => ?_, fun m hm => ?_⟩
  · rcases List.mem_append.mp hm with hm | hm
    · rw [upd_ne, upd_ne (hnl m hm)]
      · exact h.em m hm
      · intro e
        have := h.em m hm
        rw [e, h.ob] at this
        exact HO.noConfusion (Option.some.inj this)
    · obtain rfl : m = l := by simpa using hm
      rw [upd_ne ela, upd_same]
  · refine List.nodup_append.mpr ⟨h.nd, by simp, fun x hx y hy => ?_⟩
    obtain rfl : y = l := by simpa using hy
    exact hnl x hx
  · rw [upd_ne hy, upd_ne (ne_of_none (h.kp y o e hy) hl)]
    exact h.kp y o e hy
  · rcases List.mem_append.mp hm with hm | hm
    · exact h.fr m hm
    · obtain rfl : m = l := by simpa using hm
      cases e : H0 m with
      | none => rfl
      | some o =>
        have := h.kp m o e ela
        rw [hl] at this
        exact nomatch this
def spInit (K : PySem.W.Frag) (C U : Addr) (n : Nat) : Sp := fun vs H Q E => ∃ (a dx : Addr) (v : V) (t : Dt), vs = [.ref a, v] ∧ H a = some (.ins C dx []) ∧ DtV K H v t ∧ t.size ≤ 100000 ∧
  (t.good 1 = true → t.ht < n ∧ t.nodes ≤ 1000 ∧ ∀ H' L S, TreeAt C H' a dx v L S → (∀ y o, H y = some o → y ≠ a → H' y = some o) → Full K H' t S → (∀ i, i < 10 → H (L i) = none) → Q .non H') ∧
  (t.good 1 = false → ∀ H' d, Same H H' → H' d = none → E (.ref U) (some d) (upd H' d (xdO "form" (-1))))
section
variable {P : Program} {w : World} {K : PySem.W.Frag} {mg : Str → Option Value} {base : Heap}
theorem ok_init {C U f fG : Addr} {fd fdG : FuncData} (F : Fun K "__init__" "ShapeTree.__init__" s_ShapeTree_init f fd) (bG : Binds K fdG ["self", "bough", "above", "side"] []) (G : FnOk P w K mg base CX0 20 fG fdG ["self", "bough", "above", "side"] (spGrow K C 20))
    (TC : TCl K mg C fG) (GN : CalX P w K mg base (L2.CX P w) 4 "need_shape" ["form", "word"] (spNeedShape K U)) : FnOk P w K mg base (L2.CX P w) 21 f fd ["self", "form"] (spInit K C U 20) := by
  refine F.okX sc_ShapeTree_init (fun vs H Q E h => ?_) (fun cdv A outer s H vs Q E hr h => ?_)
  · obtain ⟨a, dx, v, t, rfl, _⟩ := h
    rfl
  obtain ⟨a, dx, v, t, rfl, ho, hv, hz, q1, q2⟩ := h
  refine ⟨_, pss_cons (ps_expr (pe_cx GN hr (by decide) rfl (passes_call (takes_of rfl rfl rfl rfl) (fun _ _ _ _ h => h)) (pa_cons (pv 1) (pa_cons pe_str pa_nil))))
    (pss_cons (ps_fld (pv 0) (pv 1) rfl)
    (pss_cons (ps_fld (pv 0) (pe_lst pa_nil) rfl)
    (pss_cons (ps_fld (pv 0) (pe_lst pa_nil) rfl)
    (pss_cons (ps_fld (pv 0) (pe_lst pa_nil) rfl)
    (pss_cons (ps_fld (pv 0) (pe_lst pa_nil) rfl)
    (pss_cons (ps_fld (pv 0) (pe_lst pa_nil) rfl)
    (pss_cons (ps_fld (pv 0) (pe_lst pa_nil) rfl)
    (pss_cons (ps_fld (pv 0) (pe_lst pa_nil) rfl)
    (pss_cons (ps_fld (pv 0) (pe_lst pa_nil) rfl)
    (pss_cons (ps_fld (pv 0) (pe_lst pa_nil) rfl)
    (pss_cons (ps_fld (pv 0) (pe_lst pa_nil) rfl)
    (pss_one (ps_expr (pe_meth (pv 0) TC.cl TC.mG G hr bG .nil pass0 (pa_cons (pv 1) (pa_cons (pe_tup pa_nil) (pa_cons (pe_un un_neg pe_int) pa_nil))))))))))))))))), ?_⟩
  refine ⟨_, rfl, v, t, "form", rfl, hv, hz, fun g H' sm => ?_, fun g H' d sm hd => q2 g H' d sm hd⟩
  obtain ⟨q1a, q1b, q1c⟩ := q1 g
  have ho' := sm _ _ ho
  refine ⟨_, rfl, _, rfl, a, C, dx, [], rfl, ho', TC.cl, TC.nF, (by show 0 < 1000; decide), ?_⟩
  have I0 : InitAt C H (upd H' a (.ins C dx (putF "form" v []))) a dx [("form", v)] [] := ⟨upd_same, (fun _ h => nomatch h), List.nodup_nil, fun y o e hy => by rw [upd_ne hy]; exact sm _ _ e, fun _ h => nomatch h⟩
  revert I0
  generalize upd H' a (.ins C dx (putF "form" v [])) = H0
  intro I0
  refine ⟨(by show 0 ≤ sizeLine; decide), fun l0 hl0 => ?_⟩
  obtain ⟨o0, I1⟩ := I0.step (fs' := (([("form", v)] : List (Str × V)) ++ ([("boughs", V.ref l0)] : List (Str × V)))) hl0
  refine ⟨_, rfl, a, C, dx, _, rfl, o0, TC.cl, TC.n0, (by show 1 < 1000; decide), ?_⟩
  rw [putF_new (f := ("boughs" : Str)) (v := V.ref l0) (fs := ([("form", v)] : List (Str × V))) (show ∀ g ∈ (["form"] : List Str), ¬ g = "boughs" by decide +kernel)]
  revert I1
  generalize upd (upd H0 l0 (.lst [])) a (.ins C dx (([("form", v)] : List (Str × V)) ++ ([("boughs", V.ref l0)] : List (Str × V)))) = H1
  intro I1
  refine ⟨(by show 0 ≤ sizeLine; decide), fun l1 hl1 => ?_⟩
  obtain ⟨o1, I2⟩ := I1.step (fs' := ((([("form", v)] : List (Str × V)) ++ ([("boughs", V.ref l0)] : List (Str × V))) ++ ([("parents", V.ref l1)] : List (Str × V)))) hl1
  refine ⟨_, rfl, a, C, dx, _, rfl, o1, TC.cl, TC.n1, (by show 2 < 1000; decide), ?_⟩
  rw [putF_new (f := ("parents" : Str)) (v := V.ref l1) (fs := (([("form", v)] : List (Str × V)) ++ ([("boughs", V.ref l0)] : List (Str × V)))) (show ∀ g ∈ (["form", "boughs"] : List Str), ¬ g = "parents" by decide +kernel)]
  revert I2
  generalize upd (upd H1 l1 (.lst [])) a (.ins C dx ((([("form", v)] : List (Str × V)) ++ ([("boughs", V.ref l0)] : List (Str × V))) ++ ([("parents", V.ref l1)] : List (Str × V)))) = H2
  intro I2
  refine ⟨(by show 0 ≤ sizeLine; decide), fun l2 hl2 => ?_⟩
  obtain ⟨o2, I3⟩ := I2.step (fs' := (((([("form", v)] : List (Str × V)) ++ ([("boughs", V.ref l0)] : List (Str × V))) ++ ([("parents", V.ref l1)] : List (Str × V))) ++ ([("kids", V.ref l2)] : List (Str × V)))) hl2
  refine ⟨_, rfl, a, C, dx, _, rfl, o2, TC.cl, TC.n2, (by show 3 < 1000; decide), ?_⟩
  rw [putF_new (f := ("kids" : Str)) (v := V.ref l2) (fs := ((([("form", v)] : List (Str × V)) ++ ([("boughs", V.ref l0)] : List (Str × V))) ++ ([("parents", V.ref l1)] : List (Str × V)))) (show ∀ g ∈ (["form", "boughs", "parents"] : List Str), ¬ g = "kids" by decide +kernel)]
  revert I3
  generalize upd (upd H2 l2 (.lst [])) a (.ins C dx (((([("form", v)] : List (Str × V)) ++ ([("boughs", V.ref l0)] : List (Str × V))) ++ ([("parents", V.ref l1)] : List (Str × V))) ++ ([("kids", V.ref l2)] : List (Str × V)))) = H3
  intro I3
  refine ⟨(by show 0 ≤ sizeLine; decide), fun l3 hl3 => ?_⟩
  obtain ⟨o3, I4⟩ := I3.step (fs' := ((((([("form", v)] : List (Str × V)) ++ ([("boughs", V.ref l0)] : List (Str × V))) ++ ([("parents", V.ref l1)] : List (Str × V))) ++ ([("kids", V.ref l2)] : List (Str × V))) ++ ([("depths", V.ref l3)] : List (Str × V)))) hl3
  refine ⟨_, rfl, a, C, dx, _, rfl, o3, TC.cl, TC.n3, (by show 4 < 1000; decide), ?_⟩
  rw [putF_new (f := ("depths" : Str)) (v := V.ref l3) (fs := (((([("form", v)] : List (Str × V)) ++ ([("boughs", V.ref l0)] : List (Str × V))) ++ ([("parents", V.ref l1)] : List (Str × V))) ++ ([("kids", V.ref l2)] : List (Str × V)))) (show ∀ g ∈ (["form", "boughs", "parents", "kids"] : List Str), ¬ g = "depths" by decide +kernel)]
  revert I4
  generalize upd (upd H3 l3 (.lst [])) a (.ins C dx ((((([("form", v)] : List (Str × V)) ++ ([("boughs", V.ref l0)] : List (Str × V))) ++ ([("parents", V.ref l1)] : List (Str × V))) ++ ([("kids", V.ref l2)] : List (Str × V))) ++ ([("depths", V.ref l3)] : List (Str × V)))) = H4
  intro I4
  refine ⟨(by show 0 ≤ sizeLine; decide), fun l4 hl4 => ?_⟩
  obtain ⟨o4, I5⟩ := I4.step (fs' := (((((([("form", v)] : List (Str × V)) ++ ([("boughs", V.ref l0)] : List (Str × V))) ++ ([("parents", V.ref l1)] : List (Str × V))) ++ ([("kids", V.ref l2)] : List (Str × V))) ++ ([("depths", V.ref l3)] : List (Str × V))) ++ ([("sides", V.ref l4)] : List (Str × V)))) hl4
  refine ⟨_, rfl, a, C, dx, _, rfl, o4, TC.cl, TC.n4, (by show 5 < 1000; decide), ?_⟩
  rw [putF_new (f := ("sides" : Str)) (v := V.ref l4) (fs := ((((([("form", v)] : List (Str × V)) ++ ([("boughs", V.ref l0)] : List (Str × V))) ++ ([("parents", V.ref l1)] : List (Str × V))) ++ ([("kids", V.ref l2)] : List (Str × V))) ++ ([("depths", V.ref l3)] : List (Str × V)))) (show ∀ g ∈ (["form", "boughs", "parents", "kids", "depths"] : List Str), ¬ g = "sides" by decide +kernel)]
  revert I5
  generalize upd (upd H4 l4 (.lst [])) a (.ins C dx (((((([("form", v)] : List (Str × V)) ++ ([("boughs", V.ref l0)] : List (Str × V))) ++ ([("parents", V.ref l1)] : List (Str × V))) ++ ([("kids", V.ref l2)] : List (Str × V))) ++ ([("depths", V.ref l3)] : List (Str × V))) ++ ([("sides", V.ref l4)] : List (Str × V)))) = H5
  intro I5
  refine ⟨(by show 0 ≤ sizeLine; decide), fun l5 hl5 => ?_⟩
  obtain ⟨o5, I6⟩ := I5.step (fs' := ((((((([("form", v)] : List (Str × V)) ++ ([("boughs", V.ref l0)] : List (Str × V))) ++ ([("parents", V.ref l1)] : List (Str × V))) ++ ([("kids", V.ref l2)] : List (Str × V))) ++ ([("depths", V.ref l3)] : List (Str × V))) ++ ([("sides", V.ref l4)] : List (Str × V))) ++ ([("lows", V.ref l5)] : List (Str × V)))) hl5
  refine ⟨_, rfl, a, C, dx, _, rfl, o5, TC.cl, TC.n5, (by show 6 < 1000; decide), ?_⟩
  rw [putF_new (f := ("lows" : Str)) (v := V.ref l5) (fs := (((((([("form", v)] : List (Str × V)) ++ ([("boughs", V.ref l0)] : List (Str × V))) ++ ([("parents", V.ref l1)] : List (Str × V))) ++ ([("kids", V.ref l2)] : List (Str × V))) ++ ([("depths", V.ref l3)] : List (Str × V))) ++ ([("sides", V.ref l4)] : List (Str × V)))) (show ∀ g ∈ (["form", "boughs", "parents", "kids", "depths", "sides"] : List Str), ¬ g = "lows" by decide +kernel)]
  revert I6
  generalize upd (upd H5 l5 (.lst [])) a (.ins C dx ((((((([("form", v)] : List (Str × V)) ++ ([("boughs", V.ref l0)] : List (Str × V))) ++ ([("parents", V.ref l1)] : List (Str × V))) ++ ([("kids", V.ref l2)] : List (Str × V))) ++ ([("depths", V.ref l3)] : List (Str × V))) ++ ([("sides", V.ref l4)] : List (Str × V))) ++ ([("lows", V.ref l5)] : List (Str × V)))) = H6
  intro I6
  refine ⟨(by show 0 ≤ sizeLine; decide), fun l6 hl6 => ?_⟩
  obtain ⟨o6, I7⟩ := I6.step (fs' := (((((((([("form", v)] : List (Str × V)) ++ ([("boughs", V.ref l0)] : List (Str × V))) ++ ([("parents", V.ref l1)] : List (Str × V))) ++ ([("kids", V.ref l2)] : List (Str × V))) ++ ([("depths", V.ref l3)] : List (Str × V))) ++ ([("sides", V.ref l4)] : List (Str × V))) ++ ([("lows", V.ref l5)] : List (Str × V))) ++ ([("highs", V.ref l6)] : List (Str × V)))) hl6
  refine ⟨_, rfl, a, C, dx, _, rfl, o6, TC.cl, TC.n6, (by show 7 < 1000; decide), ?_⟩
  rw [putF_new (f := ("highs" : Str)) (v := V.ref l6) (fs := ((((((([("form", v)] : List (Str × V)) ++ ([("boughs", V.ref l0)] : List (Str × V))) ++ ([("parents", V.ref l1)] : List (Str × V))) ++ ([("kids", V.ref l2)] : List (Str × V))) ++ ([("depths", V.ref l3)] : List (Str × V))) ++ ([("sides", V.ref l4)] : List (Str × V))) ++ ([("lows", V.ref l5)] : List (Str × V)))) (show ∀ g ∈ (["form", "boughs", "parents", "kids", "depths", "sides", "lows"] : List Str), ¬ g = "highs" by decide +kernel)]
  revert I7
  generalize upd (upd H6 l6 (.lst [])) a (.ins C dx (((((((([("form", v)] : List (Str × V)) ++ ([("boughs", V.ref l0)] : List (Str × V))) ++ ([("parents", V.ref l1)] : List (Str × V))) ++ ([("kids", V.ref l2)] : List (Str × V))) ++ ([("depths", V.ref l3)] : List (Str × V))) ++ ([("sides", V.ref l4)] : List (Str × V))) ++ ([("lows", V.ref l5)] : List (Str × V))) ++ ([("highs", V.ref l6)] : List (Str × V)))) = H7
  intro I7
  refine ⟨(by show 0 ≤ sizeLine; decide), fun l7 hl7 => ?_⟩
  obtain ⟨o7, I8⟩ := I7.step (fs' := ((((((((([("form", v)] : List (Str × V)) ++ ([("boughs", V.ref l0)] : List (Str × V))) ++ ([("parents", V.ref l1)] : List (Str × V))) ++ ([("kids", V.ref l2)] : List (Str × V))) ++ ([("depths", V.ref l3)] : List (Str × V))) ++ ([("sides", V.ref l4)] : List (Str × V))) ++ ([("lows", V.ref l5)] : List (Str × V))) ++ ([("highs", V.ref l6)] : List (Str × V))) ++ ([("ends", V.ref l7)] : List (Str × V)))) hl7
  refine ⟨_, rfl, a, C, dx, _, rfl, o7, TC.cl, TC.n7, (by show 8 < 1000; decide), ?_⟩
  rw [putF_new (f := ("ends" : Str)) (v := V.ref l7) (fs := (((((((([("form", v)] : List (Str × V)) ++ ([("boughs", V.ref l0)] : List (Str × V))) ++ ([("parents", V.ref l1)] : List (Str × V))) ++ ([("kids", V.ref l2)] : List (Str × V))) ++ ([("depths", V.ref l3)] : List (Str × V))) ++ ([("sides", V.ref l4)] : List (Str × V))) ++ ([("lows", V.ref l5)] : List (Str × V))) ++ ([("highs", V.ref l6)] : List (Str × V)))) (show ∀ g ∈ (["form", "boughs", "parents", "kids", "depths", "sides", "lows", "highs"] : List Str), ¬ g = "ends" by decide +kernel)]
  revert I8
  generalize upd (upd H7 l7 (.lst [])) a (.ins C dx ((((((((([("form", v)] : List (Str × V)) ++ ([("boughs", V.ref l0)] : List (Str × V))) ++ ([("parents", V.ref l1)] : List (Str × V))) ++ ([("kids", V.ref l2)] : List (Str × V))) ++ ([("depths", V.ref l3)] : List (Str × V))) ++ ([("sides", V.ref l4)] : List (Str × V))) ++ ([("lows", V.ref l5)] : List (Str × V))) ++ ([("highs", V.ref l6)] : List (Str × V))) ++ ([("ends", V.ref l7)] : List (Str × V)))) = H8
  intro I8
  refine ⟨(by show 0 ≤ sizeLine; decide), fun l8 hl8 => ?_⟩
  obtain ⟨o8, I9⟩ := I8.step (fs' := (((((((((([("form", v)] : List (Str × V)) ++ ([("boughs", V.ref l0)] : List (Str × V))) ++ ([("parents", V.ref l1)] : List (Str × V))) ++ ([("kids", V.ref l2)] : List (Str × V))) ++ ([("depths", V.ref l3)] : List (Str × V))) ++ ([("sides", V.ref l4)] : List (Str × V))) ++ ([("lows", V.ref l5)] : List (Str × V))) ++ ([("highs", V.ref l6)] : List (Str × V))) ++ ([("ends", V.ref l7)] : List (Str × V))) ++ ([("leaves", V.ref l8)] : List (Str × V)))) hl8
  refine ⟨_, rfl, a, C, dx, _, rfl, o8, TC.cl, TC.n8, (by show 9 < 1000; decide), ?_⟩
  rw [putF_new (f := ("leaves" : Str)) (v := V.ref l8) (fs := ((((((((([("form", v)] : List (Str × V)) ++ ([("boughs", V.ref l0)] : List (Str × V))) ++ ([("parents", V.ref l1)] : List (Str × V))) ++ ([("kids", V.ref l2)] : List (Str × V))) ++ ([("depths", V.ref l3)] : List (Str × V))) ++ ([("sides", V.ref l4)] : List (Str × V))) ++ ([("lows", V.ref l5)] : List (Str × V))) ++ ([("highs", V.ref l6)] : List (Str × V))) ++ ([("ends", V.ref l7)] : List (Str × V)))) (show ∀ g ∈ (["form", "boughs", "parents", "kids", "depths", "sides", "lows", "highs", "ends"] : List Str), ¬ g = "leaves" by decide +kernel)]
  revert I9
  generalize upd (upd H8 l8 (.lst [])) a (.ins C dx (((((((((([("form", v)] : List (Str × V)) ++ ([("boughs", V.ref l0)] : List (Str × V))) ++ ([("parents", V.ref l1)] : List (Str × V))) ++ ([("kids", V.ref l2)] : List (Str × V))) ++ ([("depths", V.ref l3)] : List (Str × V))) ++ ([("sides", V.ref l4)] : List (Str × V))) ++ ([("lows", V.ref l5)] : List (Str × V))) ++ ([("highs", V.ref l6)] : List (Str × V))) ++ ([("ends", V.ref l7)] : List (Str × V))) ++ ([("leaves", V.ref l8)] : List (Str × V)))) = H9
  intro I9
  refine ⟨(by show 0 ≤ sizeLine; decide), fun l9 hl9 => ?_⟩
  obtain ⟨o9, I10⟩ := I9.step (fs' := ((((((((((([("form", v)] : List (Str × V)) ++ ([("boughs", V.ref l0)] : List (Str × V))) ++ ([("parents", V.ref l1)] : List (Str × V))) ++ ([("kids", V.ref l2)] : List (Str × V))) ++ ([("depths", V.ref l3)] : List (Str × V))) ++ ([("sides", V.ref l4)] : List (Str × V))) ++ ([("lows", V.ref l5)] : List (Str × V))) ++ ([("highs", V.ref l6)] : List (Str × V))) ++ ([("ends", V.ref l7)] : List (Str × V))) ++ ([("leaves", V.ref l8)] : List (Str × V))) ++ ([("paths", V.ref l9)] : List (Str × V)))) hl9
  refine ⟨_, rfl, a, C, dx, _, rfl, o9, TC.cl, TC.n9, (by show 10 < 1000; decide), ?_⟩
  rw [putF_new (f := ("paths" : Str)) (v := V.ref l9) (fs := (((((((((([("form", v)] : List (Str × V)) ++ ([("boughs", V.ref l0)] : List (Str × V))) ++ ([("parents", V.ref l1)] : List (Str × V))) ++ ([("kids", V.ref l2)] : List (Str × V))) ++ ([("depths", V.ref l3)] : List (Str × V))) ++ ([("sides", V.ref l4)] : List (Str × V))) ++ ([("lows", V.ref l5)] : List (Str × V))) ++ ([("highs", V.ref l6)] : List (Str × V))) ++ ([("ends", V.ref l7)] : List (Str × V))) ++ ([("leaves", V.ref l8)] : List (Str × V)))) (show ∀ g ∈ (["form", "boughs", "parents", "kids", "depths", "sides", "lows", "highs", "ends", "leaves"] : List Str), ¬ g = "paths" by decide +kernel)]
  revert I10
  generalize upd (upd H9 l9 (.lst [])) a (.ins C dx ((((((((((([("form", v)] : List (Str × V)) ++ ([("boughs", V.ref l0)] : List (Str × V))) ++ ([("parents", V.ref l1)] : List (Str × V))) ++ ([("kids", V.ref l2)] : List (Str × V))) ++ ([("depths", V.ref l3)] : List (Str × V))) ++ ([("sides", V.ref l4)] : List (Str × V))) ++ ([("lows", V.ref l5)] : List (Str × V))) ++ ([("highs", V.ref l6)] : List (Str × V))) ++ ([("ends", V.ref l7)] : List (Str × V))) ++ ([("leaves", V.ref l8)] : List (Str × V))) ++ ([("paths", V.ref l9)] : List (Str × V)))) = H10
  intro I10
  have ob : H10 a = some (.ins C dx (stF v (fun i => [l0, l1, l2, l3, l4, l5, l6, l7, l8, l9].getD i 0))) := I10.ob
  have TA : TreeAt C H10 a dx v (fun i => [l0, l1, l2, l3, l4, l5, l6, l7, l8, l9].getD i 0) (fun _ => []) := ⟨ob, fun i hi => I10.em _ (by
      rw [getD_at _ _ (show i < [l0, l1, l2, l3, l4, l5, l6, l7, l8, l9].length from hi)]
      exact List.getElem_mem _), fun i j hi hj e => by
      have e' : [l0, l1, l2, l3, l4, l5, l6, l7, l8, l9].getD i 0 = [l0, l1, l2, l3, l4, l5, l6, l7, l8, l9].getD j 0 := e
      rw [getD_at _ _ (show i < [l0, l1, l2, l3, l4, l5, l6, l7, l8, l9].length from hi), getD_at _ _ (show j < [l0, l1, l2, l3, l4, l5, l6, l7, l8, l9].length from hj)] at e'
      exact (List.getElem_inj (show [l0, l1, l2, l3, l4, l5, l6, l7, l8, l9].Nodup from I10.nd)).mp e'⟩
  have fr : ∀ i, i < 10 → H ([l0, l1, l2, l3, l4, l5, l6, l7, l8, l9].getD i 0) = none := fun i hi => I10.fr _ (by
      rw [getD_at _ _ (show i < [l0, l1, l2, l3, l4, l5, l6, l7, l8, l9].length from hi)]
      exact List.getElem_mem _)
  revert TA fr
  generalize hL : (fun i => [l0, l1, l2, l3, l4, l5, l6, l7, l8, l9].getD i 0) = L
  intro TA fr
  have fr' : ∀ i, i < 10 → H (L i) = none := fun i hi => by rw [← hL]; exact fr i hi
  obtain ⟨b', bs, rfl, hb, hS⟩ := hv.good g
  have kt : KeepT H H10 := fun y xs => ⟨fun e => I10.kp y _ e (fun z => by rw [z, ho] at e; exact HO.noConfusion (Option.some.inj e)), fun o e => I10.kp y _ e (fun z => by rw [z, ho] at e; exact HO.noConfusion (Option.some.inj e))⟩
  refine ⟨_, rfl, a, dx, _, rfl, TA.ob, stF_grow _ _, _, rfl, (by show 0 ≤ sizeLine; decide), fun t1 ht1 => ?_⟩
  have s1 : Same H10 (upd H10 t1 (.tup [])) := same_new ht1
  refine ⟨_, rfl, a, b', t1, dx, bs, t, t, [], .ref b', L, fun _ => [], rfl, TA.same s1, same_sqt s1 (kt_sqt kt hb), (hS.keep kt).keep (KeepT.of_same s1), SqT.of upd_same, sub_nil t, q1b, q1a, (by decide), fun i _ => ?_, fun H' S' TA' K' G' => q1c H' L S' TA' (fun y o e hy => ?_) (fun i hi => ?_) fr'⟩
  · unfold start
    rw [idx_nil, low_nil]
    split <;> rfl
  · refine K' y o (s1 _ _ (I10.kp y o e hy)) fun i hi z => ?_
    rw [z, fr' i hi] at e
    exact nomatch e
  · obtain ⟨R, eR, pR⟩ := G' i hi
    rw [eR]
    have e : (aof i t).map (([] : Ad) ++ ·) = aof i t := by simp
    rw [← e]
    exact pR
end
end K27
set_option Elab.async false
set_option linter.all false
set_option maxRecDepth 100000
set_option maxHeartbeats 4000000
namespace K27
open PySem PySem.Spec PyProof.Rows L2 Dt
/-! ### data of any kind -/
def kindOf : PyData → String
  | .none => "NoneType" | .bool _ => "bool" | .int _ => "int" | .str _ => "str" | .tuple _ => "tuple" | _ => "list"
theorem kind_dp {K : PySem.W.Frag} {H : Hp} {v : V} {d : PyData} (h : Dp K H v d) : KindV K H v (kindOf d) := by
  cases h with
  | non => exact kind_non
  | bl b => exact kind_bl b
  | int i => exact kind_int i
  | str s => exact kind_str s
  | lst h _ =>
    refine ⟨?_, by simp [kindOf]⟩
    rcases h with (h | ⟨o, h⟩) | ⟨o, its, n, h1, h2, _⟩
    · exact .base (.lst h)
    · exact .base (.frz h)
    · exact .kList h1 h2
  | tup h _ => exact kind_sqt h
def numOf : PyData → Option Int | .int i => some i | _ => none
theorem num_dp {K : PySem.W.Frag} {H : Hp} {v : V} {d : PyData} (h : Dp K H v d) : NumV K H v (numOf d) := by
  have k := kind_dp h
  cases h with
  | int i => exact rfl
  | non => exact ⟨_, k, by decide⟩
  | bl b => exact ⟨_, k, by simp [kindOf]⟩
  | str s => exact ⟨_, k, by simp [kindOf]⟩
  | lst h _ => exact ⟨_, k, by simp [kindOf]⟩
  | tup h _ => exact ⟨_, k, by simp [kindOf]⟩
theorem dps_at {K : PySem.W.Frag} {H : Hp} : ∀ {vs : List V} {ds : List PyData}, DpAll K H vs ds → ∀ {i : Nat} {v : V}, vs[i]? = some v → ∃ d, ds[i]? = some d ∧ Dp K H v d
  | _, _, .nil, i, d, h => by simp at h
  | _, _, .cons h q, 0, d, e => by
    obtain rfl := Option.some.inj e
    exact ⟨_, rfl, h⟩
  | _, _, .cons h q, i + 1, d, e => dps_at q (i := i) (v := d) (by simpa using e)
theorem dps_len {K : PySem.W.Frag} {H : Hp} : ∀ {vs : List V} {ds : List PyData}, DpAll K H vs ds → vs.length = ds.length
  | _, _, .nil => rfl
  | _, _, .cons h q => congrArg (· + 1) (dps_len q)
mutual
theorem dp_same {K : PySem.W.Frag} {H H' : Hp} (e : Same H H') : ∀ {v : V} {d : PyData}, Dp K H v d → Dp K H' v d
  | _, _, .non => .non
  | _, _, .bl b => .bl b
  | _, _, .int i => .int i
  | _, _, .str z => .str z
  | _, _, .lst h q => .lst (e.seq h) (dps_same e q)
  | _, _, .tup h q => .tup (same_sqt e h) (dps_same e q)
theorem dps_same {K : PySem.W.Frag} {H H' : Hp} (e : Same H H') : ∀ {v : List V} {d : List PyData}, DpAll K H v d → DpAll K H' v d
  | _, _, .nil => .nil
  | _, _, .cons h q => .cons (dp_same e h) (dps_same e q)
end
theorem kind_tup_not {d : PyData} (h : ∀ ds, d ≠ .tuple ds) : (kindOf d == "tuple") = false := by
  cases d with
  | tuple ds => exact absurd rfl (h ds)
  | none => decide
  | bool _ => simp [kindOf]
  | int _ => simp [kindOf]
  | str _ => simp [kindOf]
  | list _ => simp [kindOf]
  | dict _ => simp [kindOf]
/-! ### is_rank -/
def rankB : Int := 1606938044258990275541962092341162602522202993782792835301376
def partB (d : PyData) : Bool := match numOf d with | some i => decide (-rankB < i) && decide (i < rankB) | none => false
def rankOf (d : PyData) : Bool := match d with | .tuple ds => decide (ds.length ≤ 8) && ds.all partB | _ => false
def spRank (K : PySem.W.Frag) : Sp := fun vs H Q _ => ∃ (x : V) (d : PyData), vs = [x] ∧ Dp K H x d ∧ Q (.bl (rankOf d)) H
section
variable {P : Program} {w : World} {K : PySem.W.Frag} {mg : Str → Option Value} {base : Heap}
theorem ok_rank (D : DefAt K mg "is_rank" s_is_rank ["thing"]) (T : Txt K mg) (mk : ∃ t, mg "MOST_INTEGERS" = some (.int 8 t)) (mr : ∃ t, mg "RANK_BOUND" = some (.int rankB t)) (GI : CalX P w K mg base CX0 1 "is_integer" ["thing"] (spInteger K)) : CalX P w K mg base CX0 2 "is_rank" ["thing"] (spRank K) := by
  obtain ⟨tk, mk⟩ := mk
  obtain ⟨tr, mr⟩ := mr
  refine D.ok sc_is_rank (fun vs H Q E h => ?_) (fun f cdv A outer s H vs Q E hr h => ?_)
  · obtain ⟨x, d, rfl, _⟩ := h
    rfl
  obtain ⟨x, d, rfl, hx, q⟩ := h
  refine ⟨_, pss_cons (ps_if (PW.pt (pw_or (pt_not (pt_val (pe_callB call_isi (by rfl) T.isinstance boot_isinstance (pa_cons (pv 0) (pa_cons (pe_bltn (v := .ty "tuple") (by rfl) T.tuple PyProof.Rows.boot_tuple rfl) pa_nil)))))
        (pw_or1 (pt_cmpR op_gt (pe_callB call_len_seq (by rfl) T.len PySem.boot_len (pa_cons (pv 0) pa_nil)) (pe_glob (v := .int 8) (by rfl) mk ⟨_, rfl⟩) (nomark _))))) (pss_one (ps_ret pe_bl)) pss_nil)
    (pss_cons (ps_for PassesOwn.never rfl (pi_tup (pv 0)) (pg_name (i := 1) sc_is_rank.nd rfl (Or.inl rfl))
      (pss_one (ps_if (PW.pt (pw_or (pt_not (pt_val (pe_c0 GI hr (by decide) rfl (pa_cons (pv 1) pa_nil))))
        (pw_or1 (pt_not (pt_chain op_lt op_lt (pe_un un_neg (pe_glob (v := .int rankB) (by rfl) mr ⟨_, rfl⟩)) (pv 1) (pe_glob (v := .int rankB) (by rfl) mr ⟨_, rfl⟩)))))) (pss_one (ps_ret pe_bl)) pss_nil)))
    (pss_one (ps_ret pe_bl))), ?_⟩
  have kx := kind_dp hx
  refine isi_read rfl kx.1 (kit_tup kx.2) ⟨_, rfl, ?_⟩
  by_cases ht : ∃ ds, d = .tuple ds
  · obtain ⟨ds, rfl⟩ := ht
    cases hx with
    | @tup a xs _ hs ha =>
    have hl := dps_len ha
    refine iteF ?_
    refine ⟨_, rfl, a, xs, rfl, .inr hs, _, _, rfl, rfl, _, rfl, ?_⟩
    refine ite2 (fun c => ?_) (fun c => ?_)
    · have c' : (8 : Int) < (xs.length : Int) := of_decide_eq_true c
      have e : rankOf (.tuple ds) = false := by
        show (decide (ds.length ≤ 8) && ds.all partB) = false
        rw [decide_eq_false (by omega)]
        rfl
      rw [e] at q
      exact q
    · have c' : ¬ (8 : Int) < (xs.length : Int) := fun z => c (decide_eq_true z)
      refine ⟨_, rfl, a, rfl, ⟨_, hs⟩, for_tup (K := K) (a := a) (xs := xs) (fun i σ H' => ∃ o1, σ = [some (.ref a), o1] ∧ H' = H ∧ (ds.take i).all partB = true) ⟨none, rfl, rfl, rfl⟩ (fun i σ H' _ ⟨_, _, e, _⟩ => by rw [e]; exact hs) ?_ ?_⟩
      · rintro i y σ H' hi ⟨o1, rfl, rfl, hg⟩
        obtain ⟨e, he, hy⟩ := dps_at ha hi
        have hil := (List.getElem?_eq_some_iff.mp he).1
        have et : ds.take (i + 1) = ds.take i ++ [e] := by rw [List.take_add_one, he]; rfl
        have bad : partB e = false → rankOf (.tuple ds) = false := fun z => by
          show (decide (ds.length ≤ 8) && ds.all partB) = false
          have : ds.all partB = false := List.all_eq_false.mpr ⟨e, List.mem_of_getElem? he, by rw [z]; simp⟩
          rw [this, Bool.and_false]
        have good : partB e = true → (ds.take (i + 1)).all partB = true := fun z => by
          rw [et, List.all_append, hg]
          simp [z]
        refine ⟨_, rfl, y, numOf e, rfl, num_dp hy, ⟨_, rfl, ?_⟩⟩
        cases hn : numOf e with
        | none =>
          refine iteT (iteT ?_)
          rw [bad (by unfold partB; rw [hn])] at q
          exact q
        | some z =>
          refine iteF ?_
          have hyz : y = .int z := by
            have := num_dp hy
            rw [hn] at this
            exact this
          subst hyz
          have ep : partB e = (decide (-rankB < z) && decide (z < rankB)) := by unfold partB; rw [hn]
          refine ⟨_, rfl, _, rfl, _, _, rfl, rfl, _, rfl, ?_⟩
          refine ite2 (fun c1 => ?_) (fun c1 => ?_)
          · have c1' : -rankB < z := of_decide_eq_true c1
            refine ⟨_, _, rfl, rfl, _, rfl, ?_⟩
            by_cases c2 : z < rankB
            · have e2 : (decide (z < rankB)) = true := decide_eq_true c2
              rw [e2]
              refine iteF ?_
              exact ⟨_, rfl, rfl, good (by rw [ep, decide_eq_true c1', e2]; rfl)⟩
            · have e2 : (decide (z < rankB)) = false := decide_eq_false c2
              rw [e2]
              refine iteT ?_
              rw [bad (by rw [ep, e2, Bool.and_false])] at q
              exact q
          · have c1' : ¬ -rankB < z := fun y => c1 (decide_eq_true y)
            refine ⟨_, rfl, ?_⟩
            refine iteT ?_
            rw [bad (by rw [ep, decide_eq_false c1']; rfl)] at q
            exact q
      · rintro σ H' ⟨o1, rfl, rfl, hg⟩
        rw [hl, List.take_length] at hg
        have e : rankOf (.tuple ds) = true := by
          show (decide (ds.length ≤ 8) && ds.all partB) = true
          rw [hg, decide_eq_true (by omega)]
          rfl
        rw [e] at q
        exact q
  · have e : (kindOf d == "tuple") = false := kind_tup_not fun ds z => ht ⟨ds, z⟩
    rw [e]
    refine iteT (iteT ?_)
    have e2 : rankOf d = false := by
      cases d with
      | tuple ds => exact absurd ⟨ds, rfl⟩ ht
      | _ => rfl
    rw [e2] at q
    exact q
end
end K27
set_option Elab.async false
set_option linter.all false
set_option maxRecDepth 100000
set_option maxHeartbeats 4000000
namespace K27
open PySem PySem.Spec PyProof.Rows L2 Dt
/-! ### the order of ranks -/
theorem lexAt_shift (e r : Nat → Bool) (z : Bool) : ∀ k i, Ob.lexAt e r z (i + 1) k = Ob.lexAt (fun j => e (j + 1)) (fun j => r (j + 1)) z i k
  | 0, _ => rfl
  | k + 1, i => by
    rw [Ob.lexAt_succ, Ob.lexAt_succ, lexAt_shift e r z k (i + 1)]
theorem le_lex : ∀ ns ms : List Int, Ob.lexAt (fun j => decide (ns.getD j 0 = ms.getD j 0)) (fun j => decide (ns.getD j 0 ≤ ms.getD j 0)) (decide (ns.length ≤ ms.length)) 0 (min ns.length ms.length) = !HT.lexLt ms ns
  | [], ms => by
    have e : min ([] : List Int).length ms.length = 0 := by simp
    rw [e, Ob.lexAt_zero]
    cases ms with
    | nil => rfl
    | cons y ms => rfl
  | n :: ns, [] => by
    have e : min (n :: ns).length ([] : List Int).length = 0 := by simp
    rw [e, Ob.lexAt_zero]
    show decide ((n :: ns).length ≤ 0) = !(HT.lexLt [] (n :: ns))
    rw [HT.lexLt_nil_cons]
    exact decide_eq_false (by simp)
  | n :: ns, m :: ms => by
    have e : min (n :: ns).length (m :: ms).length = min ns.length ms.length + 1 := by
      rw [List.length_cons, List.length_cons]
      omega
    have ih := le_lex ns ms
    rw [e, Ob.lexAt_succ, HT.lexLt_cons]
    show (if decide (n = m) = true then Ob.lexAt _ _ _ (0 + 1) (min ns.length ms.length) else decide (n ≤ m)) = _
    by_cases h : n = m
    · rw [if_pos (decide_eq_true h), if_pos h.symm, lexAt_shift, ← ih]
      have el : decide ((n :: ns).length ≤ (m :: ms).length) = decide (ns.length ≤ ms.length) := decide_eq_decide.mpr (by rw [List.length_cons, List.length_cons]; omega)
      rw [el]
      rfl
    · rw [if_neg (by rw [decide_eq_false h]; simp), if_neg (Ne.symm h)]
      by_cases h2 : n ≤ m
      · rw [decide_eq_true h2, decide_eq_false (show ¬ m < n by omega)]; rfl
      · rw [decide_eq_false h2, decide_eq_true (show m < n by omega)]; rfl
/-- the numbers of a rank -/
def rkInts : PyData → List Int | .tuple ds => ds.filterMap numOf | _ => []
theorem rank_ints {K : PySem.W.Frag} {H : Hp} : ∀ {xs : List V} {ds : List PyData}, DpAll K H xs ds → ds.all partB = true → xs = (ds.filterMap numOf).map V.int
  | _, _, .nil, _ => rfl
  | _, _, @DpAll.cons _ _ v vs d ds h q, g => by
    rw [List.all_cons, Bool.and_eq_true] at g
    have h2 := rank_ints q g.2
    have g1 := g.1
    unfold partB at g1
    have hn := num_dp h
    cases e : numOf d with
    | none =>
      rw [e] at g1
      exact nomatch g1
    | some i =>
      rw [e] at hn
      have hv : v = .int i := hn
      rw [List.filterMap_cons_some e, List.map_cons, ← h2, hv]
theorem rank_sqt {K : PySem.W.Frag} {H : Hp} {x : V} {d : PyData} (h : Dp K H x d) (g : rankOf d = true) : ∃ a, x = .ref a ∧ SqT K H a ((rkInts d).map V.int) := by
  cases h with
  | @tup a xs ds hs ha =>
    have g' : (decide (ds.length ≤ 8) && ds.all partB) = true := g
    rw [Bool.and_eq_true] at g'
    refine ⟨a, rfl, ?_⟩
    show SqT K H a ((ds.filterMap numOf).map V.int)
    rw [← rank_ints ha g'.2]
    exact hs
  | _ => exact nomatch g
/-! ### is_line -/
def lineGo (last : List Int) : List PyData → Bool
  | [] => true
  | .tuple [rk, _] :: r => rankOf rk && !HT.lexLt (rkInts rk) last && lineGo (rkInts rk) r
  | _ => false
def lineOf : PyData → Bool | .tuple ds => lineGo [] ds | _ => false
def spLine (K : PySem.W.Frag) : Sp := fun vs H Q _ => ∃ (x : V) (d : PyData), vs = [x] ∧ Dp K H x d ∧ ∀ H', Same H H' → Q (.bl (lineOf d)) H'
theorem lineGo_pair (last : List Int) (rk it : PyData) (r : List PyData) : lineGo last (.tuple [rk, it] :: r) = (rankOf rk && !HT.lexLt (rkInts rk) last && lineGo (rkInts rk) r) := by
  rw [lineGo]
theorem lineGo_bad (last : List Int) (e : PyData) (r : List PyData) (h : ∀ rk it, e ≠ .tuple [rk, it]) : lineGo last (e :: r) = false := by
  cases e with
  | tuple ds =>
    match ds, h with
    | [], _ => simp [lineGo]
    | [d1], _ => simp [lineGo]
    | [d1, d2], h => exact absurd rfl (h d1 d2)
    | d1 :: d2 :: d3 :: l, _ => simp [lineGo]
  | _ => simp [lineGo]
section
variable {P : Program} {w : World} {K : PySem.W.Frag} {mg : Str → Option Value} {base : Heap}
end
end K27
set_option Elab.async false
set_option linter.all false
set_option maxRecDepth 100000
set_option maxHeartbeats 4000000
namespace K27
open PySem PySem.Spec PyProof.Rows L2 Dt
/-! ### lines as they stand -/
/-- the rank of an entry, as numbers -/
def enInts : PyData → List Int | .tuple [rk, _] => rkInts rk | _ => []
def rksOf (ds : List PyData) : List (List Int) := ds.map enInts
def IsEn (d : PyData) : Prop := ∃ rk it, d = .tuple [rk, it] ∧ rankOf rk = true
theorem line_facts : ∀ (ds : List PyData) (last : List Int), lineGo last ds = true → (∀ d ∈ ds, IsEn d) ∧ (rksOf ds).Pairwise (fun p q => HT.lexLt q p = false) ∧ ∀ r ∈ rksOf ds, HT.lexLt r last = false
  | [], last, _ => ⟨(fun d h => by simp at h), List.Pairwise.nil, (fun r h => by simp [rksOf] at h)⟩
  | e :: ds, last, g => by
    by_cases he : ∃ rk it, e = .tuple [rk, it]
    · obtain ⟨rk, it, rfl⟩ := he
      rw [lineGo_pair] at g
      simp only [Bool.and_eq_true, Bool.not_eq_true'] at g
      obtain ⟨⟨g1, g2⟩, g3⟩ := g
      obtain ⟨h1, h2, h3⟩ := line_facts ds (rkInts rk) g3
      refine ⟨fun d hd => ?_, ?_, fun r hr => ?_⟩
      · rcases List.mem_cons.mp hd with rfl | hd
        · exact ⟨rk, it, rfl, g1⟩
        · exact h1 d hd
      · exact List.pairwise_cons.mpr ⟨fun r hr => h3 r hr, h2⟩
      · rcases List.mem_cons.mp (show r ∈ rkInts rk :: rksOf ds from hr) with rfl | hr
        · exact g2
        · exact NtL.lex_tr _ _ _ g2 (h3 r hr)
    · rw [lineGo_bad last e ds fun rk it z => he ⟨rk, it, z⟩] at g
      exact nomatch g
/-- p is where r goes: behind all that are not greater -/
structure PlaceIs (rs : List (List Int)) (r : List Int) (p : Nat) : Prop where
  le : p ≤ rs.length
  lo : ∀ i s, i < p → rs[i]? = some s → HT.lexLt r s = false
  hi : ∀ i s, p ≤ i → rs[i]? = some s → HT.lexLt r s = true
def spBehind (K : PySem.W.Frag) : Sp := fun vs H Q _ => ∃ (x y : V) (ds : List PyData) (rk : PyData), vs = [x, y] ∧ Dp K H x (.tuple ds) ∧ Dp K H y rk ∧ lineOf (.tuple ds) = true ∧ rankOf rk = true ∧ ds.length ≤ 1000000 ∧ ∀ p, PlaceIs (rksOf ds) (rkInts rk) p → Q (.int (p : Nat)) H
section
variable {P : Program} {w : World} {K : PySem.W.Frag} {mg : Str → Option Value} {base : Heap}
theorem ok_behind (D : DefAt K mg "place_behind" s_place_behind ["line", "rank"]) (T : Txt K mg) : CalX P w K mg base CX0 1 "place_behind" ["line", "rank"] (spBehind K) := by
  refine D.ok sc_place_behind (fun vs H Q E h => ?_) (fun f cdv A outer s H vs Q E hr h => ?_)
  · obtain ⟨x, y, ds, rk, rfl, _⟩ := h
    rfl
  obtain ⟨x, y, ds, rk, rfl, hx, hy, hline, hrk, hn, q⟩ := h
  obtain ⟨hen, hpw, _⟩ := line_facts ds [] hline
  obtain ⟨rb, rfl, hrb⟩ := rank_sqt hy hrk
  cases hx with
  | @tup a xs _ hs ha =>
  have hl := dps_len ha
  have hlr : (rksOf ds).length = ds.length := by simp [rksOf]
  refine ⟨_, pss_cons (ps_set (i := 2) sc_place_behind.nd rfl (.inl rfl) pe_int)
    (pss_cons (ps_set (i := 3) sc_place_behind.nd rfl (.inl rfl) (pe_callB call_len_seq (by rfl) T.len PySem.boot_len (pa_cons (pv 0) pa_nil)))
    (pss_cons (ps_while PassesOwn.never (pt_cmpR op_lt (pv 2) (pv 3) (nomark _))
      (pss_cons (ps_set (i := 4) sc_place_behind.nd rfl (.inl rfl) (pe_op op_fdiv (pe_op op_add (pv 2) (pv 3)) pe_int))
      (pss_one (ps_if (pt_cmpR (op_leT hr.units0) (pe_ix ix_tup (pe_ix ix_tup (pv 0) (pv 4) (fun _ _ => rfl)) pe_int (fun _ _ => rfl)) (pv 1) (nomark _))
        (pss_one (ps_set (i := 2) sc_place_behind.nd rfl (.inl rfl) (pe_op op_add (pv 4) pe_int)))
        (pss_one (ps_set (i := 3) sc_place_behind.nd rfl (.inl rfl) (pv 4)))))))
    (pss_one (ps_ret (pv 2))))), ?_⟩
  refine ⟨_, rfl, a, xs, rfl, .inr hs, ?_⟩
  rw [hl]
  refine ⟨fun m σ H' => ∃ (lo hi : Nat) (o4 : Option V), σ = [some (.ref a), some (.ref rb), some (.int (lo : Nat)), some (.int (hi : Nat)), o4] ∧ H' = H ∧ m = hi - lo ∧ lo ≤ hi ∧ hi ≤ ds.length ∧
    (∀ i s, i < lo → (rksOf ds)[i]? = some s → HT.lexLt (rkInts rk) s = false) ∧ (∀ i s, hi ≤ i → (rksOf ds)[i]? = some s → HT.lexLt (rkInts rk) s = true),
    ⟨ds.length, 0, ds.length, none, rfl, rfl, rfl, Nat.zero_le _, Nat.le_refl _, (fun i s h => absurd h (Nat.not_lt_zero _)), fun i s h e => absurd (List.getElem?_eq_some_iff.mp e).1 (by omega)⟩, ?_⟩
  rintro m σ H' ⟨lo, hi, o4, rfl, rfl, rfl, h1, h2, h3, h4⟩
  refine ⟨_, rfl, _, rfl, _, _, rfl, rfl, _, rfl, ?_⟩
  refine ite2 (fun c => ?_) (fun c => ?_)
  · have c' : ((lo : Nat) : Int) < (hi : Nat) := of_decide_eq_true c
    refine ⟨_, fun _ _ z => z, ?_⟩
    refine ⟨_, rfl, _, rfl, _, _, rfl, rfl, _, _, rfl, rfl, ⟨by decide, by decide⟩, ?_⟩
    have em : (((lo : Nat) : Int) + (hi : Nat)) / 2 = (((lo + hi) / 2 : Nat) : Int) := by omega
    have em2 : V.int ((((lo : Nat) : Int) + (hi : Nat)) / 2) = V.int (((lo + hi) / 2 : Nat) : Int) := by rw [em]
    rw [show ((fun i j => V.int (i / j)) (((lo : Nat) : Int) + (hi : Nat)) 2) = V.int (((lo + hi) / 2 : Nat) : Int) from em2]
    have hmid : (lo + hi) / 2 < ds.length := by omega
    generalize hme : (lo + hi) / 2 = mid at hmid
    have hxm : mid < xs.length := by omega
    obtain ⟨e, he, hxe⟩ := dps_at ha (List.getElem?_eq_getElem hxm)
    obtain ⟨rk', it, rfl, hrk'⟩ := hen e (List.mem_of_getElem? he)
    have hrs : (rksOf ds)[mid]? = some (rkInts rk') := by
      unfold rksOf
      rw [List.getElem?_map, he]
      rfl
    generalize hxv : xs[mid] = xv at hxe
    cases hxe with
    | @tup b ys _ hsb hab =>
    cases hab with
    | @cons v1 vr d1 dr g1 gr =>
    obtain ⟨ra, rfl, hra⟩ := rank_sqt g1 hrk'
    have hxat : xs[mid]? = some (.ref b) := by rw [List.getElem?_eq_getElem hxm, hxv]
    refine ⟨_, rfl, _, rfl, a, xs, _, _, rfl, rfl, hs, atI_nat hxat, b, (V.ref ra :: vr), 0, V.ref ra, rfl, rfl, hsb, (show atI (V.ref ra :: vr) ((0 : Nat) : Int) = some (V.ref ra) from atI_nat rfl), _, rfl, ra, rb, rkInts rk', rkInts rk, rfl, rfl, hra, hrb, _, rfl, ?_⟩
    rw [le_lex]
    have mono : ∀ i s j t, i < j → (rksOf ds)[i]? = some s → (rksOf ds)[j]? = some t → HT.lexLt t s = false := fun i s j t hij e1 e2 => by
      obtain ⟨l1, e1'⟩ := List.getElem?_eq_some_iff.mp e1
      obtain ⟨l2, e2'⟩ := List.getElem?_eq_some_iff.mp e2
      rw [← e1', ← e2']
      exact List.pairwise_iff_getElem.mp hpw i j l1 l2 hij
    cases hc : HT.lexLt (rkInts rk) (rkInts rk') with
    | false =>
      refine iteT ?_
      refine ⟨_, rfl, _, _, rfl, rfl, ?_⟩
      refine ⟨hi - (mid + 1), by omega, mid + 1, hi, _, rfl, rfl, rfl, by omega, h2, fun i s hi2 e1 => ?_, h4⟩
      by_cases z : i = mid
      · subst z
        rw [hrs] at e1
        rw [← Option.some.inj e1]
        exact hc
      · exact NtL.lex_tr _ _ _ (mono i s mid _ (by omega) e1 hrs) hc
    | true =>
      refine iteF ?_
      refine ⟨_, rfl, ?_⟩
      refine ⟨mid - lo, by omega, lo, mid, _, rfl, rfl, rfl, by omega, by omega, h3, fun i s hi2 e1 => ?_⟩
      by_cases z : i = mid
      · subst z
        rw [hrs] at e1
        rw [← Option.some.inj e1]
        exact hc
      · cases hq : HT.lexLt (rkInts rk) s with
        | true => rfl
        | false =>
          have z2 : HT.lexLt (rkInts rk) (rkInts rk') = false := NtL.lex_tr (rkInts rk') s (rkInts rk) (mono mid _ i s (by omega) hrs e1) hq
          rw [hc] at z2
          exact nomatch z2
  · have c' : ¬ ((lo : Nat) : Int) < (hi : Nat) := fun z => c (decide_eq_true z)
    have e : lo = hi := by omega
    subst e
    exact ⟨_, rfl, q lo ⟨by omega, h3, h4⟩⟩
end
end K27
set_option Elab.async false
set_option linter.all false
set_option maxRecDepth 100000
set_option maxHeartbeats 4000000
namespace K27
open PySem PySem.Spec PyProof.Rows L2 Dt
/-! ### copied -/
/-- lists, tuples and atoms, nested less than n deep, of at most 1000 parts each -/
def plainN : Nat → PyData → Prop
  | 0, _ => False
  | _ + 1, .none => True
  | _ + 1, .bool _ => True
  | _ + 1, .int _ => True
  | _ + 1, .str _ => True
  | n + 1, .tuple ds => ds.length ≤ 1000 ∧ ∀ d ∈ ds, plainN n d
  | n + 1, .list ds => ds.length ≤ 1000 ∧ ∀ d ∈ ds, plainN n d
  | _, _ => False
theorem dps_snoc {K : PySem.W.Frag} {H : Hp} : ∀ {vs : List V} {ds : List PyData} {v : V} {d : PyData}, DpAll K H vs ds → Dp K H v d → DpAll K H (vs ++ [v]) (ds ++ [d])
  | _, _, _, _, .nil, h => .cons h .nil
  | _, _, _, _, .cons r t, h => .cons r (dps_snoc t h)
mutual
theorem dp_off {K : PySem.W.Frag} {H : Hp} {l : Addr} (hl : H l = none) {H' : Hp} (e : Same H H') (u : HO) : ∀ {v : V} {d : PyData}, Dp K H v d → Dp K (upd H' l u) v d
  | _, _, .non => .non
  | _, _, .bl b => .bl b
  | _, _, .int i => .int i
  | _, _, .str z => .str z
  | _, _, .lst h q => .lst ((same_mut e hl).seq h) (dps_off hl e u q)
  | _, _, .tup h q => .tup (same_sqt (same_mut e hl) h) (dps_off hl e u q)
theorem dps_off {K : PySem.W.Frag} {H : Hp} {l : Addr} (hl : H l = none) {H' : Hp} (e : Same H H') (u : HO) : ∀ {v : List V} {d : List PyData}, DpAll K H v d → DpAll K (upd H' l u) v d
  | _, _, .nil => .nil
  | _, _, .cons h q => .cons (dp_off hl e u h) (dps_off hl e u q)
end
/-- y's data rests on objects alone that are not in H -/
def DpF (K : PySem.W.Frag) (H H' : Hp) (y : V) (d : PyData) : Prop := ∀ H2, (∀ b u, H b = none → H' b = some u → H2 b = some u) → Dp K H2 y d
theorem DpF.dp {K : PySem.W.Frag} {H H' : Hp} {y : V} {d : PyData} (h : DpF K H H' y d) : Dp K H' y d := h H' fun _ _ _ e => e
def spCopied (K : PySem.W.Frag) (n : Nat) : Sp := fun vs H Q _ => ∃ (x : V) (d : PyData), vs = [x] ∧ Dp K H x d ∧ plainN n d ∧ ∀ H' y, Same H H' → DpF K H H' y d → Q y H'
theorem kit_list {t : String} (h : t = "int" ∨ t = "bool" ∨ t = "NoneType" ∨ t = "str" ∨ t = "tuple" ∨ t = "list") : kitB t "list" = some (t == "list") := by
  rcases h with rfl | rfl | rfl | rfl | rfl | rfl <;> decide +kernel
/-- the copies of the first parts, made while D holds them -/
def Made (K : PySem.W.Frag) (H H' : Hp) (D : Addr) (acc : List V) (ds : List PyData) : Prop := ∀ H2, (∀ b u, H b = none → b ≠ D → H' b = some u → H2 b = some u) → DpAll K H2 acc ds
section
variable {P : Program} {w : World} {K : PySem.W.Frag} {mg : Str → Option Value} {base : Heap}
theorem Made.step {H H1 H2 : Hp} {D : Addr} {acc : List V} {ds : List PyData} {y : V} {d : PyData} (s : Same H H1) (hD : H1 D = some (.lst acc)) (s2 : Same H1 H2) (m : Made K H H1 D acc ds) (f : DpF K H1 H2 y d) : Made K H (upd H2 D (.lst (acc ++ [y]))) D (acc ++ [y]) (ds ++ [d]) := by
  intro H3 hk
  refine dps_snoc (m H3 fun b u h1 h2 h3 => hk b u h1 h2 ?_) (f H3 fun b u h1 h2 => ?_)
  · rw [upd_ne h2]
    exact s2 _ _ h3
  · have hb : b ≠ D := fun z => by rw [z, hD] at h1; exact nomatch h1
    exact hk b u (s.free h1) hb (by rw [upd_ne hb]; exact h2)
end
/-! ### put_place -/
def Out (U : Addr) (z : Str) (H : Hp) (E : XK) : Prop := ∀ d, H d = none → E (.ref U) (some d) (upd H d (xdO z (-1)))
def spPutPlace (K : PySem.W.Frag) (U : Addr) : Sp := fun vs H Q E => ∃ (x y : V) (d r : PyData), vs = [x, y] ∧ Dp K H x d ∧ Dp K H y r ∧ (∀ ds, d = .tuple ds → ds.length ≤ 1000000) ∧
  (lineOf d = false → ∀ H', Same H H' → Out U "line" H' E) ∧ (lineOf d = true → rankOf r = false → ∀ H', Same H H' → Out U "rank" H' E) ∧
  (∀ ds p H', d = .tuple ds → lineOf d = true → rankOf r = true → PlaceIs (rksOf ds) (rkInts r) p → Same H H' → Q (.int (p : Nat)) H')
end K27
set_option Elab.async false
set_option linter.all false
set_option maxRecDepth 100000
set_option maxHeartbeats 4000000
namespace K27
open PySem PySem.Spec PyProof.Rows L2 Dt
/-! ### a made tree -/
def Tree (K : PySem.W.Frag) (H : Hp) (C a : Addr) (T : Dt) : Prop := ∃ dx fv L S, TreeAt C H a dx fv L S ∧ Full K H T S ∧ ShV K H fv T ∧ T.nodes ≤ 1000
theorem Tree.same {K : PySem.W.Frag} {H H' : Hp} {C a : Addr} {T : Dt} (t : Tree K H C a T) (e : Same H H') : Tree K H' C a T := by
  obtain ⟨dx, fv, L, S, h1, h2, h3, h4⟩ := t
  exact ⟨dx, fv, L, S, h1.same e, fun i hi => Paired.mono (fun v q c => Cell.keep (KeepT.of_same e) i v q c) (h2 i hi), h3.keep (KeepT.of_same e), h4⟩
/-- the same, with lists that are new to H0 -/
def TN (K : PySem.W.Frag) (H0 H : Hp) (C a : Addr) (T : Dt) : Prop := ∃ dx fv L S, TreeAt C H a dx fv L S ∧ Full K H T S ∧ ShV K H fv T ∧ T.nodes ≤ 1000 ∧ ∀ i, i < 10 → H0 (L i) = none
theorem TN.same {K : PySem.W.Frag} {H0 H H' : Hp} {C a : Addr} {T : Dt} (t : TN K H0 H C a T) (e : Same H H') : TN K H0 H' C a T := by
  obtain ⟨dx, fv, L, S, h1, h2, h3, h4, h5⟩ := t
  exact ⟨dx, fv, L, S, h1.same e, fun i hi => Paired.mono (fun v q c => Cell.keep (KeepT.of_same e) i v q c) (h2 i hi), h3.keep (KeepT.of_same e), h4, h5⟩
theorem TN.from {K : PySem.W.Frag} {H0 H1 H : Hp} {C a : Addr} {T : Dt} (t : TN K H0 H C a T) (e : ∀ y, H0 y = none → H1 y = none) : TN K H1 H C a T := by
  obtain ⟨dx, fv, L, S, h1, h2, h3, h4, h5⟩ := t
  exact ⟨dx, fv, L, S, h1, h2, h3, h4, fun i hi => e _ (h5 i hi)⟩
theorem Paired.at {α β : Type} {F : α → β → Prop} : ∀ {l : List α} {m : List β}, Paired F l m → ∀ {i : Nat} {b : β}, m[i]? = some b → ∃ a, l[i]? = some a ∧ F a b
  | _, _, .nil, i, b, h => by simp at h
  | _, _, .cons r t, 0, b, h => by
    obtain rfl := Option.some.inj h
    exact ⟨_, rfl, r⟩
  | _, _, .cons r t, i + 1, b, h => Paired.at t (i := i) (b := b) (by simpa using h)
theorem idx_at {T : Dt} {p : Ad} (h : p ∈ ad T) : (ad T)[T.idx p]? = some p := by
  obtain ⟨u, hu⟩ := ad_sub h
  exact ad_at hu
theorem Full.node {K : PySem.W.Frag} {H : Hp} {T : Dt} {S : Nat → List V} (f : Full K H T S) {k : Nat} (hk : k < 8) {p : Ad} (hp : p ∈ ad T) : ∃ v, atI (S k) (T.idx p : Nat) = some v ∧ Cell K H T k v p := by
  have h := f k (by omega)
  unfold aof at h
  rw [if_pos hk] at h
  obtain ⟨v, h1, h2⟩ := Paired.at h (idx_at hp)
  exact ⟨v, atI_nat h1, h2⟩
theorem Full.len {K : PySem.W.Frag} {H : Hp} {T : Dt} {S : Nat → List V} (f : Full K H T S) {k : Nat} (hk : k < 8) : (S k).length = T.nodes := by
  have h := f k (by omega)
  unfold aof at h
  rw [if_pos hk] at h
  rw [Paired.len h, ad_len]
theorem Full.lenL {K : PySem.W.Frag} {H : Hp} {T : Dt} {S : Nat → List V} (f : Full K H T S) : (S 8).length = T.lf := by
  have h := f 8 (by omega)
  have : aof 8 = lv := rfl
  rw [this] at h
  exact Paired.len h
/-- a number that is below: an address -/
theorem below_ad {T : Dt} {o : Option Int} (h : belowB (T.nodes : Nat) o = true) : ∃ p, p ∈ ad T ∧ o = some (T.idx p : Nat) := by
  cases o with
  | none => exact nomatch h
  | some i =>
    have h' : (decide (0 ≤ i) && decide (i < (T.nodes : Nat))) = true := h
    rw [Bool.and_eq_true] at h'
    have h1 := of_decide_eq_true h'.1
    have h2 := of_decide_eq_true h'.2
    have h3 : i.toNat < (ad T).length := by rw [ad_len]; omega
    refine ⟨(ad T)[i.toNat], List.getElem_mem h3, ?_⟩
    rw [idx_of (List.getElem?_eq_getElem h3)]
    congr 1
    omega
theorem below_lv {T : Dt} {o : Option Int} (h : belowB (T.lf : Nat) o = true) : ∃ (i : Nat) (p : Ad), (lv T)[i]? = some p ∧ o = some (i : Nat) := by
  cases o with
  | none => exact nomatch h
  | some i =>
    have h' : (decide (0 ≤ i) && decide (i < (T.lf : Nat))) = true := h
    rw [Bool.and_eq_true] at h'
    have h1 := of_decide_eq_true h'.1
    have h2 := of_decide_eq_true h'.2
    have h3 : i.toNat < (lv T).length := by
      show i.toNat < T.lf
      omega
    refine ⟨i.toNat, (lv T)[i.toNat], List.getElem?_eq_getElem h3, ?_⟩
    congr 1
    omega
theorem ad_below {T : Dt} {p : Ad} (h : p ∈ ad T) : belowB (T.nodes : Nat) (some (T.idx p : Nat)) = true := by
  obtain ⟨u, hu⟩ := ad_sub h
  have h1 := idx_lt hu
  have h2 := u.nodes_pos
  show (decide ((0 : Int) ≤ (T.idx p : Nat)) && decide (((T.idx p : Nat) : Int) < (T.nodes : Nat))) = true
  rw [Bool.and_eq_true]
  exact ⟨decide_eq_true (by omega), decide_eq_true (by omega)⟩
section
variable {P : Program} {w : World} {K : PySem.W.Frag} {mg : Str → Option Value} {base : Heap} {C U fG : Addr}
def spNeedNode (K : PySem.W.Frag) (C U : Addr) : Sp := fun vs H Q E => ∃ a x o T z, vs = [.ref a, x, .str z] ∧ Tree K H C a T ∧ NumV K H x o ∧ (belowB (T.nodes : Nat) o = true → Q .non H) ∧ (belowB (T.nodes : Nat) o = false → Out U z H E)
def spNeedQueue (K : PySem.W.Frag) (C U : Addr) : Sp := fun vs H Q E => ∃ a x o T z, vs = [.ref a, x, .str z] ∧ Tree K H C a T ∧ NumV K H x o ∧ (belowB (T.lf : Nat) o = true → Q .non H) ∧ (belowB (T.lf : Nat) o = false → Out U z H E)
theorem ok_need_queue (D : DefAt K mg "need_queue" s_need_queue ["tree", "queue", "word"]) (T : Txt K mg) (TC : TCl K mg C fG) (GB : CalX P w K mg base CX0 3 "is_below" ["thing", "bound"] (spBelow K)) (GN : CalX P w K mg base (L2.CX P w) 3 "need" ["fits", "word"] (spNeed U)) :
    CalX P w K mg base (L2.CX P w) 4 "need_queue" ["tree", "queue", "word"] (spNeedQueue K C U) := by
  refine D.okX sc_need_queue (fun vs H Q E h => ?_) (fun f cdv A outer s H vs Q E hr h => ?_)
  · obtain ⟨a, x, o, t, z, rfl, _⟩ := h
    rfl
  obtain ⟨a, x, o, t, z, rfl, ⟨dx, fv, L, S, hT, hF, hV, h1⟩, hx, q1, q2⟩ := h
  refine ⟨_, pss_one (ps_expr (pe_cx GN hr (by decide) rfl (passes_call (takes_of rfl rfl rfl rfl) (fun _ _ _ _ h => h)) (pa_cons (pe_c0 GB hr (by decide) rfl (pa_cons (pv 1) (pa_cons (pe_callB call_len_seq (by rfl) T.len PySem.boot_len (pa_cons (pe_fld (pv 0) rfl) pa_nil)) pa_nil))) (pa_cons (pv 2) pa_nil)))), ?_⟩
  refine ⟨_, rfl, _, rfl, a, C, dx, _, _, rfl, hT.ob, TC.cl, TC.n8, stF_8 _ _, L 8, _, rfl, .inl (SqL.of (hT.ls 8 (by decide))), ?_⟩
  rw [hF.lenL]
  exact ⟨x, o, _, rfl, hx, _, rfl, _, z, rfl, q1, q2⟩
/-! ### shape_tree -/
def spShapeTree (K : PySem.W.Frag) (C U : Addr) : Sp := fun vs H Q E => ∃ (v : V) (t : Dt) (z : Str), vs = [v, .str z] ∧ DtV K H v t ∧ t.size ≤ 100000 ∧ (t.good 1 = true → t.ht < 20 ∧ t.nodes ≤ 1000 ∧ ∀ a H' (fr : Addr), Same H H' → TN K H H' C a t → H a = none → Tree K H' C a t → Q (.ref a) H') ∧
  (t.good 1 = false → ∀ H', Same H H' → Out U z H' E)
theorem ok_shapeTree {fC : Addr} {fdC : FuncData} (D : DefAt K mg "shape_tree" s_shape_tree ["form", "word"]) (M : Mk K C fC) (gC : mg "ShapeTree" = some (.ref C)) (bC : Binds K fdC ["self", "form"] []) (FC : FnOk P w K mg base (L2.CX P w) 21 fC fdC ["self", "form"] (spInit K C U 20))
    (GNS : CalX P w K mg base (L2.CX P w) 4 "need_shape" ["form", "word"] (spNeedShape K U)) : CalX P w K mg base (L2.CX P w) 23 "shape_tree" ["form", "word"] (spShapeTree K C U) := by
  refine D.okX sc_shape_tree (fun vs H Q E h => ?_) (fun f cdv A outer s H vs Q E hr h => ?_)
  · obtain ⟨v, t, z, rfl, _⟩ := h
    rfl
  obtain ⟨v, t, z, rfl, hv, hz, q1, q2⟩ := h
  refine ⟨_, pss_cons (ps_expr (pe_cx GNS hr (by decide) rfl (passes_call (takes_of rfl rfl rfl rfl) (fun _ _ _ _ h => h)) (pa_cons (pv 0) (pa_cons (pv 1) pa_nil))))
    (pss_one (ps_ret (pe_make M FC (hr.mono (by decide)) rfl gC bC .nil (passes_call (takes_of rfl rfl rfl rfl) (fun _ _ _ _ h => h)) (pa_cons (pv 0) pa_nil)))), ?_⟩
  refine ⟨_, rfl, _, rfl, v, t, z, rfl, hv, hz, fun g H1 s1 => ?_, fun g H1 d s1 hd => q2 g H1 s1 d hd⟩
  obtain ⟨p1, p2, p3⟩ := q1 g
  refine ⟨_, rfl, fun x dx hx hdx hne => ?_⟩
  have sx : Same H1 (upd (upd H1 dx (.own x)) x (.ins C dx [])) := fun y o h => by rw [upd_ne (ne_of_none h hx), upd_ne (ne_of_none h hdx)]; exact h
  refine ⟨x, dx, v, t, rfl, upd_same, same_dtv (s1.trans sx) hv, hz, fun _ => ⟨p1, p2, fun H2 L S TA kp F fr => ⟨rfl, ?_⟩⟩, fun bad => absurd (g.symm.trans bad) (by decide)⟩
  have sm : Same H1 H2 := fun y o h => kp y o (sx y o h) (ne_of_none h hx)
  have hsv : ShV K H2 v t := (same_dtv (s1.trans sm) hv).good g
  exact p3 x H2 x (s1.trans sm) ⟨dx, v, L, S, TA, F, hsv, p2, fun i hi => s1.free (sx.free (fr i hi))⟩ (s1.free hx) ⟨dx, v, L, S, TA, F, hsv, p2⟩
end
end K27
set_option Elab.async false
set_option linter.all false
set_option maxRecDepth 100000
set_option maxHeartbeats 4000000
namespace K27
open PySem PySem.Spec PyProof.Rows L2 Dt
/-! ### fit_path, are_ranks -/
def fitOf (n : Nat) (d : PyData) : Bool := match d with | .tuple ds => decide (ds.length = n) && ds.all rankOf | _ => false
def spFit (K : PySem.W.Frag) (C : Addr) : Sp := fun vs H Q _ => ∃ (a : Addr) (i : Nat) (x : V) (T : Dt) (p : Ad) (d : PyData), vs = [.ref a, .int (i : Nat), x] ∧ Tree K H C a T ∧ (lv T)[i]? = some p ∧ Dp K H x d ∧ (∀ ds, d = .tuple ds → ds.length ≤ 1000000) ∧ ∀ H', Same H H' → Q (.bl (fitOf (p.length + 1) d)) H'
def spAreRanks (K : PySem.W.Frag) (C U : Addr) : Sp := fun vs H Q E => ∃ (v x y : V) (t : Dt) (o : Option Int) (d : PyData), vs = [v, x, y] ∧ DtV K H v t ∧ t.size ≤ 100000 ∧ (t.good 1 = true → t.ht < 20 ∧ t.nodes ≤ 1000) ∧ NumV K H x o ∧ Dp K H y d ∧ (∀ ds, d = .tuple ds → ds.length ≤ 1000000) ∧
  (t.good 1 = false → ∀ H', Same H H' → Out U "form" H' E) ∧ (t.good 1 = true → belowB (t.lf : Nat) o = false → ∀ H', Same H H' → Out U "queue" H' E) ∧
  (t.good 1 = true → ∀ (i : Nat) p H', o = some (i : Nat) → (lv t)[i]? = some p → Same H H' → Q (.bl (fitOf (p.length + 1) d)) H')
theorem numV_same {K : PySem.W.Frag} {H H' : Hp} (e : Same H H') {x : V} {o : Option Int} (h : NumV K H x o) : NumV K H' x o := by
  cases o with
  | some i => exact h
  | none =>
    obtain ⟨t, h1, h2⟩ := h
    exact ⟨t, same_kind e h1, h2⟩
section
variable {P : Program} {w : World} {K : PySem.W.Frag} {mg : Str → Option Value} {base : Heap} {C U fG : Addr}
theorem ok_fit (D : DefAt K mg "fit_path" s_fit_path ["tree", "queue", "thing"]) (T : Txt K mg) (TC : TCl K mg C fG) (GR : CalX P w K mg base CX0 2 "is_rank" ["thing"] (spRank K)) : CalX P w K mg base CX0 3 "fit_path" ["tree", "queue", "thing"] (spFit K C) := by
  refine D.ok sc_fit_path (fun vs H Q E h => ?_) (fun f cdv A outer s H vs Q E hr h => ?_)
  · obtain ⟨a, i, x, t, p, d, rfl, _⟩ := h
    rfl
  obtain ⟨a, i, x, t, p, d, rfl, hTr, hp, hx, hn, q⟩ := h
  refine ⟨_, pss_cons (ps_if (PW.pt (pw_or (pt_not (pt_val (pe_callB call_isi (by rfl) T.isinstance boot_isinstance (pa_cons (pv 2) (pa_cons (pe_bltn (v := .ty "tuple") (by rfl) T.tuple PyProof.Rows.boot_tuple rfl) pa_nil)))))
        (pw_or1 (pt_cmpR op_ne (pe_callB call_len_seq (by rfl) T.len PySem.boot_len (pa_cons (pv 2) pa_nil)) (pe_callB call_len_seq (by rfl) T.len PySem.boot_len (pa_cons (pe_ix ix_list (pe_fld (pv 0) rfl) (pv 1) (fun _ _ => rfl)) pa_nil)) (nomark _))))) (pss_one (ps_ret pe_bl)) pss_nil)
    (pss_one (ps_ret (pe_callB (cr_all rfl) (by rfl) T.all (by decide +kernel) (pa_cons (pe_lc (own := [("rank", 3)]) (g := gName 3) (tt := tYes) (by rfl) sc_fit_path.nd (pi_tup (pv 2))
        (blkOk_by (own := [("rank", 3)]) (N := N_fit_path) (sc := defScope s_fit_path) (by decide +kernel)) (fun _ _ _ _ _ => pg_name (i := 3) sc_fit_path.nd rfl (Or.inl rfl)) (fun _ _ _ _ _ => pts_nil)
        (fun _ _ _ _ _ => by exact (pe_c0 GR hr (by decide) rfl (pa_cons (pv 3) pa_nil)))) pa_nil)))), ?_⟩
  have kx := kind_dp hx
  have sH : Same H H := fun _ _ z => z
  obtain ⟨dx, fv, L, S, hT, hF, hV, h1⟩ := id hTr
  have h9 := hF 9 (by decide)
  obtain ⟨v9, e9, b9, rfl, hb9⟩ := Paired.at h9 (show (aof 9 t)[i]? = some p from hp)
  refine isi_read rfl kx.1 (kit_tup kx.2) ⟨_, rfl, ?_⟩
  by_cases ht : ∃ ds, d = .tuple ds
  · obtain ⟨ds, rfl⟩ := ht
    cases hx with
    | @tup b xs _ hs ha =>
    have hl := dps_len ha
    have hsl := sizeLine_eq
    have hds := hn ds rfl
    refine iteF ?_
    refine ⟨_, rfl, b, xs, rfl, .inr hs, _, rfl, a, C, dx, _, _, rfl, hT.ob, TC.cl, TC.n9, stF_9 _ _, _, rfl, L 9, _, _, _, rfl, rfl, SqL.of (hT.ls 9 (by decide)), atI_nat e9, b9, _, rfl, .inr hb9, rfl, _, rfl, ?_⟩
    have el : (pth t p (p.length + 1)).length = p.length + 1 := by unfold pth; rw [List.length_map, List.length_range]
    rw [el, hl]
    by_cases c : ds.length = p.length + 1
    · rw [c]
      have e0 : (decide (V.int ((p.length + 1 : Nat) : Int) = V.int ((p.length + 1 : Nat) : Int))) = true := decide_eq_true rfl
      rw [e0]
      refine iteF ?_
      refine ⟨_, rfl, b, rfl, ⟨_, hs⟩, fun Dl hDl => lc_tup (K := K) (a := b) (xs := xs) (fun k H' => Same H H' ∧ H' Dl = some (.lst (((ds.take k).map rankOf).map V.bl))) ⟨same_new hDl, upd_same⟩ (fun k H' _ ⟨sm, _⟩ => same_sqt sm hs) ?_ ?_⟩
      · rintro k y H' hk ⟨sm, hD⟩
        obtain ⟨e, he, hy⟩ := dps_at ha hk
        have hkl := (List.getElem?_eq_some_iff.mp he).1
        refine ⟨rfl, _, rfl, y, e, rfl, dp_same sm hy, ?_⟩
        refine ⟨_, hD, ?_, same_mut sm hDl, ?_⟩
        · rw [List.length_map, List.length_map, List.length_take]
          omega
        · rw [upd_same, List.take_add_one, he, List.map_append, List.map_append]
          rfl
      · rintro H' ⟨sm, hD⟩
        rw [hl, List.take_length] at hD
        refine ⟨Dl, _, rfl, SqL.of hD, ?_⟩
        have e1 : fitOf (p.length + 1) (.tuple ds) = (ds.map rankOf).all id := by
          show (decide (ds.length = p.length + 1) && ds.all rankOf) = _
          rw [decide_eq_true c, Bool.true_and, List.all_map]
          rfl
        have := q H' sm
        rw [e1] at this
        exact this
    · have e0 : (decide (V.int (ds.length : Nat) = V.int ((p.length + 1 : Nat) : Int))) = false := decide_eq_false fun z => c (by injection z with z; omega)
      rw [e0]
      refine iteT ?_
      have := q H sH
      rw [show fitOf (p.length + 1) (.tuple ds) = false by show (decide (ds.length = p.length + 1) && ds.all rankOf) = false; rw [decide_eq_false c]; rfl] at this
      exact this
  · have e : (kindOf d == "tuple") = false := kind_tup_not fun ds z => ht ⟨ds, z⟩
    rw [e]
    refine iteT (iteT ?_)
    have e2 : fitOf (p.length + 1) d = false := by
      cases d with
      | tuple ds => exact absurd ⟨ds, rfl⟩ ht
      | _ => rfl
    have := q H sH
    rw [e2] at this
    exact this
end
end K27
set_option Elab.async false
set_option linter.all false
set_option maxRecDepth 100000
set_option maxHeartbeats 8000000
namespace K27
open PySem PySem.Spec PyProof.Rows L2 Dt
/-! ### the class Standing: its fields, its making -/
def packB : Int := 1152921504606846976
def stS (ta la sd : Addr) : List (Str × V) := [("tree", .ref ta), ("lines", .ref la), ("seats", .ref sd)]
structure StCl (K : PySem.W.Frag) (CS : Addr) : Prop where
  cl : Cls K CS
  nT : NoAttr K CS "tree"
  nL : NoAttr K CS "lines"
  nS : NoAttr K CS "seats"
/-- a standing: its tree, one list a node, the queues of its packets -/
structure Stand (K : PySem.W.Frag) (C CS : Addr) (H : Hp) (a dx ta la sd : Addr) (Ls : List Addr) (T : Dt) (xs : Nat → List V) (kv : List (Key × V)) : Prop where
  ob : H a = some (.ins CS dx (stS ta la sd))
  tr : Tree K H C ta T
  ln : H la = some (.lst (Ls.map V.ref))
  len : Ls.length = T.nodes
  li : ∀ i l, Ls[i]? = some l → H l = some (.lst (xs i))
  se : H sd = some (.dK kv)
  nd : (la :: Ls).Nodup
def spStInit (K : PySem.W.Frag) (C CS U : Addr) : Sp := fun vs H Q E => ∃ (a dx : Addr) (v : V) (t : Dt), vs = [.ref a, v] ∧ H a = some (.ins CS dx []) ∧ DtV K H v t ∧ t.size ≤ 100000 ∧
  (t.good 1 = true → t.ht < 20 ∧ t.nodes ≤ 1000 ∧ ∀ H' ta la sd Ls, Stand K C CS H' a dx ta la sd Ls t (fun _ => []) [] → (∀ y o, H y = some o → y ≠ a → H' y = some o) → H ta = none → H la = none → H sd = none → (∀ l ∈ Ls, H l = none) → Q .non H') ∧
  (t.good 1 = false → ∀ H', Same H H' → Out U "form" H' E)
theorem paired_len {α β : Type} {F : α → β → Prop} : ∀ {l : List α} {m : List β}, Paired F l m → l.length = m.length
  | _, _, .nil => rfl
  | _, _, .cons _ t => congrArg (· + 1) (paired_len t)
theorem Tree.put {K : PySem.W.Frag} {H : Hp} {C ta a : Addr} {T : Dt} (t : Tree K H C ta T) (CS dx : Addr) (fs : List (Str × V)) (ha : H a = some (.ins CS dx fs)) (ne : a ≠ ta) (fs' : List (Str × V)) : Tree K (upd H a (.ins CS dx fs')) C ta T := by
  obtain ⟨dx', fv, L, S, h1, h2, h3, h4⟩ := t
  have kt : KeepT H (upd H a (.ins CS dx fs')) := fun y ys => ⟨fun h => by
    rw [upd_ne]
    · exact h
    · intro e
      rw [e, ha] at h
      exact HO.noConfusion (Option.some.inj h), fun o h => by
    rw [upd_ne]
    · exact h
    · intro e
      rw [e, ha] at h
      exact HO.noConfusion (Option.some.inj h)⟩
  refine ⟨dx', fv, L, S, ⟨?_, fun i hi => ?_, h1.inj⟩, fun i hi => Paired.mono (fun v q c => Cell.keep kt i v q c) (h2 i hi), h3.keep kt, h4⟩
  · rw [upd_ne ne.symm]
    exact h1.ob
  · have := h1.ls i hi
    rw [upd_ne]
    · exact this
    · intro e
      rw [e, ha] at this
      exact HO.noConfusion (Option.some.inj this)
end K27
set_option Elab.async false
set_option linter.all false
set_option maxRecDepth 100000
set_option maxHeartbeats 8000000
namespace K27
open PySem PySem.Spec PyProof.Rows L2 Dt
abbrev st1 (ta : Addr) : List (Str × V) := [("tree", .ref ta)]
abbrev st2 (ta la : Addr) : List (Str × V) := [("tree", .ref ta), ("lines", .ref la)]
theorem lst_upd {H : Hp} {a CS dx : Addr} {fs fs' : List (Str × V)} {l : Addr} {xs : List V} (ha : H a = some (.ins CS dx fs)) (h : H l = some (.lst xs)) : (upd H a (.ins CS dx fs')) l = some (.lst xs) := by
  rw [upd_ne]
  · exact h
  · intro e
    rw [e, ha] at h
    exact HO.noConfusion (Option.some.inj h)
section
variable {P : Program} {w : World} {K : PySem.W.Frag} {mg : Str → Option Value} {base : Heap}
theorem ok_stInit {C CS U f fG : Addr} {fd : FuncData} (F : Fun K "__init__" "Standing.__init__" s_Standing_init f fd) (SC : StCl K CS) (TC : TCl K mg C fG)
    (GShapeTree : CalX P w K mg base (L2.CX P w) 23 "shape_tree" ["form", "word"] (spShapeTree K C U)) : FnOk P w K mg base (L2.CX P w) 24 f fd ["self", "form"] (spStInit K C CS U) := by
  refine F.okX sc_Standing_init (fun vs H Q E h => ?_) (fun cdv A outer s H vs Q E hr h => ?_)
  · obtain ⟨a, dx, v, t, rfl, _⟩ := h
    rfl
  obtain ⟨a, dx, v, t, rfl, ho, hv, hz, q1, q2⟩ := h
  refine ⟨_, pss_cons (ps_fld (pv 0) (pe_cx GShapeTree hr (by decide) rfl (passes_call (takes_of rfl rfl rfl rfl) (fun _ _ _ _ h => h)) (pa_cons (pv 1) (pa_cons pe_str pa_nil))) rfl)
    (pss_cons (ps_fld (pv 0) (pe_lc (own := [("_", 2)]) (g := gName 2) (tt := tYes) (by rfl) sc_Standing_init.nd (pi_list (pe_fld (pe_fld (pv 0) rfl) rfl)) (blkOk_by (own := [("_", 2)]) (N := N_Standing_init) (sc := defScope s_Standing_init) (by decide +kernel)) (fun _ _ _ _ _ => pg_name (i := 2) sc_Standing_init.nd rfl (Or.inl rfl)) (fun _ _ _ _ _ => pts_nil) (fun _ _ _ _ _ => by exact (pe_lst pa_nil))) rfl)
    (pss_one (ps_fld (pv 0) pe_dnewK rfl))), ?_⟩
  refine ⟨_, rfl, v, t, "form", rfl, hv, hz, fun g => ?_, fun g H' s => q2 g H' s⟩
  obtain ⟨g1, g2, k⟩ := q1 g
  refine ⟨g1, g2, fun ta H1 _ s1 _ hta hTr => ?_⟩
  have ho1 := s1 _ _ ho
  have nta : a ≠ ta := fun e => by
    rw [e, hta] at ho
    exact nomatch ho
  refine ⟨_, rfl, a, CS, dx, [], rfl, ho1, SC.cl, SC.nT, (by show 0 < 1000; decide), ?_⟩
  have T2 := hTr.put CS dx [] ho1 nta (putF "tree" (.ref ta) [])
  have ob2 : (upd H1 a (.ins CS dx (putF "tree" (.ref ta) []))) a = some (.ins CS dx (st1 ta)) := upd_same
  have kp2 : ∀ y o, H y = some o → y ≠ a → (upd H1 a (.ins CS dx (putF "tree" (.ref ta) []))) y = some o := fun y o h n => by
    rw [upd_ne n]
    exact s1 _ _ h
  revert T2 ob2 kp2
  generalize upd H1 a (.ins CS dx (putF "tree" (.ref ta) [])) = H2
  intro T2 ob2 kp2
  have T2' := T2
  obtain ⟨dx', fv, L, S, h1, h2, h3, h4⟩ := T2'
  have hlen : (S 2).length = t.nodes := by
    rw [Paired.len (h2 2 (by decide))]
    exact ad_len t
  refine ⟨_, rfl, a, CS, dx, _, _, rfl, ob2, SC.cl, SC.nT, rfl, ta, C, dx', _, _, rfl, h1.ob, TC.cl, TC.n2, stF_2 _ _, L 2, rfl, ⟨_, SqL.of (h1.ls 2 (by decide))⟩, fun Dl hDl => ?_⟩
  refine lc_list (K := K) (a := L 2) (xs := S 2) (fun j H' => Same H2 H' ∧ ∃ Ls : List Addr, H' Dl = some (.lst (Ls.map V.ref)) ∧ Ls.length = j ∧ (∀ l ∈ Ls, H' l = some (.lst []) ∧ H2 l = none) ∧ (Dl :: Ls).Nodup) ⟨same_new hDl, [], upd_same, rfl, (fun _ z => nomatch z), by simp⟩ (fun j H' _ hh => SqL.of (hh.1 _ _ (h1.ls 2 (by decide)))) ?_ ?_
  · rintro j x H' hj ⟨sm, Ls, hD, hl, hls, hnd⟩
    have hjl := (List.getElem?_eq_some_iff.mp hj).1
    refine ⟨rfl, (by show 0 ≤ sizeLine; decide), fun p hp => ?_⟩
    have npD : p ≠ Dl := fun e => by
      rw [e, hD] at hp
      exact nomatch hp
    have npL : p ∉ Ls := fun z => by
      rw [(hls p z).1] at hp
      exact nomatch hp
    obtain ⟨nd1, nd2⟩ := List.nodup_cons.mp hnd
    refine ⟨Ls.map V.ref, (same_new hp) _ _ hD, small1000 (by rw [List.length_map]; omega), same_mut (sm.trans (same_new hp)) hDl, Ls ++ [p], by rw [upd_same, List.map_append]; rfl, by rw [List.length_append]; show Ls.length + 1 = j + 1; omega, fun l hl2 => ?_, ?_⟩
    · rcases List.mem_append.mp hl2 with hl2 | hl2
      · obtain ⟨e1, e2⟩ := hls l hl2
        refine ⟨?_, e2⟩
        rw [upd_ne (fun e => nd1 (by rw [← e]; exact hl2))]
        exact (same_new hp) _ _ e1
      · obtain rfl := List.mem_singleton.mp hl2
        refine ⟨?_, sm.free hp⟩
        rw [upd_ne npD]
        exact upd_same
    · refine List.nodup_cons.mpr ⟨fun z => ?_, List.nodup_append.mpr ⟨nd2, by simp, fun x hx y hy e => ?_⟩⟩
      · rcases List.mem_append.mp z with z | z
        · exact nd1 z
        · exact npD (List.mem_singleton.mp z).symm
      · rw [List.mem_singleton.mp hy] at e
        exact npL (e ▸ hx)
  rintro H3 ⟨sm, Ls, hD, hl, hls, hnd⟩
  have ob3 := sm _ _ ob2
  have nDa : Dl ≠ a := fun e => by
    rw [e, ob2] at hDl
    exact nomatch hDl
  refine ⟨_, rfl, a, CS, dx, _, rfl, ob3, SC.cl, SC.nL, (by show 1 < 1000; decide), ?_⟩
  have T4 := (T2.same sm).put CS dx (st1 ta) ob3 nta (st2 ta Dl)
  have e4 : putF "lines" (.ref Dl) (st1 ta) = (st2 ta Dl) := putF_new (show ∀ g ∈ (["tree"] : List Str), ¬ g = "lines" by decide +kernel)
  rw [e4]
  have ob4 : (upd H3 a (.ins CS dx (st2 ta Dl))) a = some (.ins CS dx (st2 ta Dl)) := upd_same
  have hD4 := lst_upd (fs' := (st2 ta Dl)) ob3 hD
  have hls4 : ∀ l ∈ Ls, (upd H3 a (.ins CS dx (st2 ta Dl))) l = some (.lst []) := fun l h => lst_upd ob3 (hls l h).1
  have kp4 : ∀ y o, H y = some o → y ≠ a → (upd H3 a (.ins CS dx (st2 ta Dl))) y = some o := fun y o h n => by
    rw [upd_ne n]
    exact sm _ _ (kp2 y o h n)
  revert T4 ob4 hD4 hls4 kp4
  generalize upd H3 a (.ins CS dx (st2 ta Dl)) = H4
  intro T4 ob4 hD4 hls4 kp4
  refine fun sd hsd => ?_
  have s5 := same_new (o := .dK []) hsd
  have ob5 := s5 _ _ ob4
  refine ⟨_, rfl, a, CS, dx, _, rfl, ob5, SC.cl, SC.nS, (by show 2 < 1000; decide), ?_⟩
  have e6 : putF "seats" (.ref sd) (st2 ta Dl) = stS ta Dl sd := putF_new (show ∀ g ∈ (["tree", "lines"] : List Str), ¬ g = "seats" by decide +kernel)
  rw [e6]
  have nsa : sd ≠ a := fun e => by
    rw [e, ob4] at hsd
    exact nomatch hsd
  have free : ∀ l, H2 l = none → l ≠ a → H l = none := fun l h n => by
    cases e : H l with
    | none => rfl
    | some o =>
      rw [kp2 l o e n] at h
      exact nomatch h
  refine k _ ta Dl sd Ls ⟨upd_same, (T4.same s5).put CS dx _ ob5 nta _, lst_upd ob5 (s5 _ _ hD4), by rw [hl, hlen], fun i l hi => lst_upd ob5 (s5 _ _ (hls4 l (List.mem_of_getElem? hi))), ?_, hnd⟩ (fun y o h n => ?_) hta (free Dl hDl nDa) ?_ (fun l h => free l (hls l h).2 fun e => ?_)
  · rw [upd_ne nsa]
    exact upd_same
  · rw [upd_ne n]
    exact s5 _ _ (kp4 y o h n)
  · cases e : H sd with
    | none => rfl
    | some o =>
      rw [kp4 sd o e nsa] at hsd
      exact nomatch hsd
  · have := (hls l h).2
    rw [e, ob2] at this
    exact nomatch this
end
end K27
set_option Elab.async false
set_option linter.all false
set_option maxRecDepth 100000
set_option maxHeartbeats 4000000
namespace K27
open PySem PySem.Spec PyProof.Rows L2
/-! ### place_behind, for a list -/
def spBehindL (K : PySem.W.Frag) : Sp := fun vs H Q _ => ∃ (a : Addr) (y : V) (xs : List V) (ds : List PyData) (rk : PyData), vs = [.ref a, y] ∧ SqL K H a xs ∧ DpAll K H xs ds ∧ Dp K H y rk ∧ lineOf (.tuple ds) = true ∧ rankOf rk = true ∧ ds.length ≤ 1000000 ∧ ∀ p, PlaceIs (rksOf ds) (rkInts rk) p → Q (.int (p : Nat)) H
section
variable {P : Program} {w : World} {K : PySem.W.Frag} {mg : Str → Option Value} {base : Heap}
theorem ok_behindL (D : DefAt K mg "place_behind" s_place_behind ["line", "rank"]) (T : Txt K mg) : CalX P w K mg base CX0 1 "place_behind" ["line", "rank"] (spBehindL K) := by
  refine D.ok sc_place_behind (fun vs H Q E h => ?_) (fun f cdv A outer s H vs Q E hr h => ?_)
  · obtain ⟨a, y, xs, ds, rk, rfl, _⟩ := h
    rfl
  obtain ⟨a, y, xs, ds, rk, rfl, hs, ha, hy, hline, hrk, hn, q⟩ := h
  obtain ⟨hen, hpw, _⟩ := line_facts ds [] hline
  obtain ⟨rb, rfl, hrb⟩ := rank_sqt hy hrk
  have hl := dps_len ha
  have hlr : (rksOf ds).length = ds.length := by simp [rksOf]
  refine ⟨_, pss_cons (ps_set (i := 2) sc_place_behind.nd rfl (.inl rfl) pe_int)
    (pss_cons (ps_set (i := 3) sc_place_behind.nd rfl (.inl rfl) (pe_callB call_len_seq (by rfl) T.len PySem.boot_len (pa_cons (pv 0) pa_nil)))
    (pss_cons (ps_while PassesOwn.never (pt_cmpR op_lt (pv 2) (pv 3) (nomark _))
      (pss_cons (ps_set (i := 4) sc_place_behind.nd rfl (.inl rfl) (pe_op op_fdiv (pe_op op_add (pv 2) (pv 3)) pe_int))
      (pss_one (ps_if (pt_cmpR (op_leT hr.units0) (pe_ix ix_tup (pe_ix ix_list (pv 0) (pv 4) (fun _ _ => rfl)) pe_int (fun _ _ => rfl)) (pv 1) (nomark _))
        (pss_one (ps_set (i := 2) sc_place_behind.nd rfl (.inl rfl) (pe_op op_add (pv 4) pe_int)))
        (pss_one (ps_set (i := 3) sc_place_behind.nd rfl (.inl rfl) (pv 4)))))))
    (pss_one (ps_ret (pv 2))))), ?_⟩
  refine ⟨_, rfl, a, xs, rfl, .inl hs, ?_⟩
  rw [hl]
  refine ⟨fun m σ H' => ∃ (lo hi : Nat) (o4 : Option V), σ = [some (.ref a), some (.ref rb), some (.int (lo : Nat)), some (.int (hi : Nat)), o4] ∧ H' = H ∧ m = hi - lo ∧ lo ≤ hi ∧ hi ≤ ds.length ∧
    (∀ i s, i < lo → (rksOf ds)[i]? = some s → HT.lexLt (rkInts rk) s = false) ∧ (∀ i s, hi ≤ i → (rksOf ds)[i]? = some s → HT.lexLt (rkInts rk) s = true),
    ⟨ds.length, 0, ds.length, none, rfl, rfl, rfl, Nat.zero_le _, Nat.le_refl _, (fun i s h => absurd h (Nat.not_lt_zero _)), fun i s h e => absurd (List.getElem?_eq_some_iff.mp e).1 (by omega)⟩, ?_⟩
  rintro m σ H' ⟨lo, hi, o4, rfl, rfl, rfl, h1, h2, h3, h4⟩
  refine ⟨_, rfl, _, rfl, _, _, rfl, rfl, _, rfl, ?_⟩
  refine ite2 (fun c => ?_) (fun c => ?_)
  · have c' : ((lo : Nat) : Int) < (hi : Nat) := of_decide_eq_true c
    refine ⟨_, fun _ _ z => z, ?_⟩
    refine ⟨_, rfl, _, rfl, _, _, rfl, rfl, _, _, rfl, rfl, ⟨by decide, by decide⟩, ?_⟩
    have em : (((lo : Nat) : Int) + (hi : Nat)) / 2 = (((lo + hi) / 2 : Nat) : Int) := by omega
    have em2 : V.int ((((lo : Nat) : Int) + (hi : Nat)) / 2) = V.int (((lo + hi) / 2 : Nat) : Int) := by rw [em]
    rw [show ((fun i j => V.int (i / j)) (((lo : Nat) : Int) + (hi : Nat)) 2) = V.int (((lo + hi) / 2 : Nat) : Int) from em2]
    have hmid : (lo + hi) / 2 < ds.length := by omega
    generalize hme : (lo + hi) / 2 = mid at hmid
    have hxm : mid < xs.length := by omega
    obtain ⟨e, he, hxe⟩ := dps_at ha (List.getElem?_eq_getElem hxm)
    obtain ⟨rk', it, rfl, hrk'⟩ := hen e (List.mem_of_getElem? he)
    have hrs : (rksOf ds)[mid]? = some (rkInts rk') := by
      unfold rksOf
      rw [List.getElem?_map, he]
      rfl
    generalize hxv : xs[mid] = xv at hxe
    cases hxe with
    | @tup b ys _ hsb hab =>
    cases hab with
    | @cons v1 vr d1 dr g1 gr =>
    obtain ⟨ra, rfl, hra⟩ := rank_sqt g1 hrk'
    have hxat : xs[mid]? = some (.ref b) := by rw [List.getElem?_eq_getElem hxm, hxv]
    refine ⟨_, rfl, _, rfl, a, xs, _, _, rfl, rfl, hs, atI_nat hxat, b, (V.ref ra :: vr), 0, V.ref ra, rfl, rfl, hsb, (show atI (V.ref ra :: vr) ((0 : Nat) : Int) = some (V.ref ra) from atI_nat rfl), _, rfl, ra, rb, rkInts rk', rkInts rk, rfl, rfl, hra, hrb, _, rfl, ?_⟩
    rw [le_lex]
    have mono : ∀ i s j t, i < j → (rksOf ds)[i]? = some s → (rksOf ds)[j]? = some t → HT.lexLt t s = false := fun i s j t hij e1 e2 => by
      obtain ⟨l1, e1'⟩ := List.getElem?_eq_some_iff.mp e1
      obtain ⟨l2, e2'⟩ := List.getElem?_eq_some_iff.mp e2
      rw [← e1', ← e2']
      exact List.pairwise_iff_getElem.mp hpw i j l1 l2 hij
    cases hc : HT.lexLt (rkInts rk) (rkInts rk') with
    | false =>
      refine iteT ?_
      refine ⟨_, rfl, _, _, rfl, rfl, ?_⟩
      refine ⟨hi - (mid + 1), by omega, mid + 1, hi, _, rfl, rfl, rfl, by omega, h2, fun i s hi2 e1 => ?_, h4⟩
      by_cases z : i = mid
      · subst z
        rw [hrs] at e1
        rw [← Option.some.inj e1]
        exact hc
      · exact NtL.lex_tr _ _ _ (mono i s mid _ (by omega) e1 hrs) hc
    | true =>
      refine iteF ?_
      refine ⟨_, rfl, ?_⟩
      refine ⟨mid - lo, by omega, lo, mid, _, rfl, rfl, rfl, by omega, by omega, h3, fun i s hi2 e1 => ?_⟩
      by_cases z : i = mid
      · subst z
        rw [hrs] at e1
        rw [← Option.some.inj e1]
        exact hc
      · cases hq : HT.lexLt (rkInts rk) s with
        | true => rfl
        | false =>
          have z2 : HT.lexLt (rkInts rk) (rkInts rk') = false := NtL.lex_tr (rkInts rk') s (rkInts rk) (mono mid _ i s (by omega) hrs e1) hq
          rw [hc] at z2
          exact nomatch z2
  · have c' : ¬ ((lo : Nat) : Int) < (hi : Nat) := fun z => c (decide_eq_true z)
    have e : lo = hi := by omega
    subst e
    exact ⟨_, rfl, q lo ⟨by omega, h3, h4⟩⟩
end
end K27
set_option Elab.async false
set_option linter.all false
set_option maxRecDepth 100000
set_option maxHeartbeats 4000000
namespace L2
open PySem PySem.Spec PyProof.Rows
/-! ### zip(t, u, l): two tuples and a list -/
def Itz3 (K : PySem.W.Frag) (a b c : Addr) : It :=
  ⟨fun i H => ∃ (xs ys zs : List V) (x y u : V), SqT K H a xs ∧ SqT K H b ys ∧ SqL K H c zs ∧ xs[i]? = some x ∧ ys[i]? = some y ∧ zs[i]? = some u,
    fun i H v H' => ∃ T x y u, v = .ref T ∧ H T = none ∧ H' = upd H T (.tup [x, y, u]) ∧ (∀ xs, SqT K H a xs → xs[i]? = some x) ∧ (∀ ys, SqT K H b ys → ys[i]? = some y) ∧ ∀ zs, SqL K H c zs → zs[i]? = some u,
    fun i H => ∃ xs ys zs : List V, SqT K H a xs ∧ SqT K H b ys ∧ SqL K H c zs ∧ i ≤ xs.length ∧ i ≤ ys.length ∧ i ≤ zs.length ∧ (i = xs.length ∨ i = ys.length ∨ i = zs.length)⟩
theorem turn_zip3 {P : Program} {w : World} {K : PySem.W.Frag} {elts : List Expr} {kk : Nat} {tpos : Pos} {a b c z TI TO i1 i2 i3 : Addr} (D : ZipSep3 z TI TO i1 i2 i3 [i1, a] [i2, b] [i3, c]) (na : a ≠ i1) (nb : b ≠ i2) (nc : c ≠ i3) (n12 : i1 ≠ z ∧ i2 ≠ z ∧ i3 ≠ z) :
    Turn P w K (.Tuple elts kk tpos) (Itz3 K a b c) [z, TI, TO, i1, i2, i3] z (fun i h => IsZip h z TI TO .none ∧ IsTupOf3 h TI (.ref i1) (.ref i2) (.ref i3) ∧ (∃ x y u, IsTupOf3 h TO x y u) ∧ h.IsTupleIter i1 a i ∧ h.IsTupleIter i2 b i ∧ h.IsListIter i3 c i) where
  mem := by simp
  obj := fun i h st q hq => by
    obtain ⟨hz, hTI, ⟨x, y, u, hTO⟩, ⟨o1, e1, _, d1⟩, ⟨o2, e2, _, d2⟩, ⟨o3, e3, _, d3⟩⟩ := st
    have e' : q = z ∨ q = TI ∨ q = TO ∨ q = i1 ∨ q = i2 ∨ q = i3 := by simpa using hq
    rcases e' with e | e | e | e | e | e
    · rw [e]; exact ⟨_, hz, fun v q => nomatch q⟩
    · rw [e]; exact ⟨_, hTI, fun v q => nomatch q⟩
    · rw [e]; exact ⟨_, hTO, fun v q => nomatch q⟩
    · rw [e]; exact ⟨o1, e1, fun v q => by rw [d1] at q; cases q⟩
    · rw [e]; exact ⟨o2, e2, fun v q => by rw [d2] at q; cases q⟩
    · rw [e]; exact ⟨o3, e3, fun v q => by rw [d3] at q; cases q⟩
  keep := fun i h h' st k => by
    obtain ⟨hz, hTI, ⟨x, y, u, hTO⟩, h1, h2, h3⟩ := st
    exact ⟨k z (by simp) _ hz, k TI (by simp) _ hTI, ⟨x, y, u, k TO (by simp) _ hTO⟩, h1.at fun o q => k i1 (by simp) o q, h2.at fun o q => k i2 (by simp) o q, h3.at fun o q => k i3 (by simp) o q⟩
  item := by
    intro X hP hw hK hc i pins s σ H E I hf st hg
    subst hP hw hK
    obtain ⟨hz, hTI, ⟨x0, y0, u0, hTO⟩, h1, h2, h3⟩ := st
    obtain ⟨xs, ys, zs, x, y, u, hqx, hqy, hqz, hx, hy, hu⟩ := hg
    obtain ⟨its, rv, p, _⟩ := I.tuple hqx
    obtain ⟨its2, rv2, p2, _⟩ := I.tuple hqy
    obtain ⟨its3, rv3, p3, _⟩ := I.list hqz
    obtain ⟨v1, hv1, r1⟩ := rv.get hx
    obtain ⟨v2, hv2, r2⟩ := rv2.get hy
    obtain ⟨v3, hv3, r3⟩ := rv3.get hu
    have hzl : z < s.heap.objs.size := Heap.lt_size hz
    have hh := I.ok.hd hc
    have D1 := Draws.tuple (prog := X.prog) (w := X.w) (A := X.A.in1) hh i1 a na its.toArray
    have D2 := Draws.tuple (prog := X.prog) (w := X.w) (A := X.A.in1) hh i2 b nb its2.toArray
    have D3 := Draws.list (prog := X.prog) (w := X.w) (A := X.A.in1) hh i3 c nc its3.toArray
    refine wpAny_pyNext_zipD3_item D D1 D2 D3 hz hTI hTO ⟨h1, p⟩ ⟨h2, p2⟩ ⟨h3, p3.isList⟩ (by rw [List.size_toArray]; exact (List.getElem?_eq_some_iff.mp hv1).1) (by rw [List.size_toArray]; exact (List.getElem?_eq_some_iff.mp hv2).1) (by rw [List.size_toArray]; exact (List.getElem?_eq_some_iff.mp hv3).1) fun x1 x2 x3 h' tk P1 P2 P3 z' TO' s1' s2' s3' hT hsz hk => ?_
    have q1 : x1 = v1 := Option.some.inj ((show its.toArray[i]? = some x1 from P1).symm.trans (by simpa using hv1))
    have q2 : x2 = v2 := Option.some.inj ((show its2.toArray[i]? = some x2 from P2).symm.trans (by simpa using hv2))
    have q3 : x3 = v3 := Option.some.inj ((show its3.toArray[i]? = some x3 from P3).symm.trans (by simpa using hv3))
    subst q1 q2 q3
    refine ⟨_, rfl, wpAny_letOwnedTupleGo_zip (s := { s with heap := h', toks := tk }) z' fun h'' z'' sb => ?_⟩
    have hT2 : h''.get? s.heap.objs.size = some { cls := .type "tuple", data := .seq #[x1, x2, x3] } := (sb.2 _ (Nat.ne_of_gt hzl)).trans hT
    have new : ObjOk X.prog X.w (upd H s.heap.objs.size (.tup [x, y, u])) h'' s.heap.objs.size (.tup [x, y, u]) :=
      ⟨by show 3 ≤ sizeLine; decide, [x1, x2, x3], .cons r1 (.cons r2 (.cons r3 .nil)), ⟨_, hT2, rfl, _, rfl⟩⟩
    have I1 : Inv X pins σ (upd H s.heap.objs.size (.tup [x, y, u])) { s with heap := h'', toks := tk } :=
      I.turnedNew (t' := tk) (ch := [z, TI, TO, i1, i2, i3]) (fun q o hb e => (sb.2 q (fun q' => hb (by simp [q']))).trans (hk q o (fun q' => hb (by simp [q'])) (fun q' => hb (by simp [q'])) (fun q' => hb (by simp [q'])) (fun q' => hb (by simp [q'])) (fun q' => hb (by simp [q'])) e)) hf (Nat.le_refl _) new
    refine ⟨.ref s.heap.objs.size, _, I1, rfl, ⟨_, x, y, u, rfl, I.hok.fresh (Nat.le_refl _), rfl, fun l hl => by rw [I.tuple_inj hl hqx]; exact hx, fun l hl => by rw [I.tuple_inj hl hqy]; exact hy, fun l hl => by rw [I.list_inj hl hqz]; exact hu⟩, ⟨z'', ?_, ⟨x1, x2, x3, ?_⟩, ?_, ?_, ?_⟩, fun q hq => ?_⟩
    · exact (sb.2 _ D.TIz).trans (hk _ _ D.TIz D.TITO D.TIi1 D.TIi2 D.TIi3 hTI)
    · exact (sb.2 _ D.TOz).trans TO'
    · exact s1'.1.at fun o q => (sb.2 _ n12.1).trans q
    · exact s2'.1.at fun o q => (sb.2 _ n12.2.1).trans q
    · exact s3'.1.at fun o q => (sb.2 _ n12.2.2).trans q
    · have hlt : q < s.heap.objs.size := by
        have e' : q = z ∨ q = TI ∨ q = TO ∨ q = i1 ∨ q = i2 ∨ q = i3 := by simpa using hq
        rcases e' with e | e | e | e | e | e
        · rw [e]; exact hzl
        · rw [e]; exact Heap.lt_size hTI
        · rw [e]; exact Heap.lt_size hTO
        · rw [e]; obtain ⟨_, e1, _⟩ := h1; exact Heap.lt_size e1
        · rw [e]; obtain ⟨_, e1, _⟩ := h2; exact Heap.lt_size e1
        · rw [e]; obtain ⟨_, e1, _⟩ := h3; exact Heap.lt_size e1
      rw [upd_ne (Nat.ne_of_lt hlt)]
      exact (hf q hq).1
  done := by
    intro X hP hw hK hc i pins s σ H E I hf st hg
    subst hP hw hK
    obtain ⟨hz, hTI, ⟨x0, y0, u0, hTO⟩, h1, h2, h3⟩ := st
    obtain ⟨xs, ys, zs, hqx, hqy, hqz, l1, l2, l3, hend⟩ := hg
    obtain ⟨its, rv, p, _⟩ := I.tuple hqx
    obtain ⟨its2, rv2, p2, _⟩ := I.tuple hqy
    obtain ⟨its3, rv3, p3, _⟩ := I.list hqz
    have e1 := rv.length
    have e2 := rv2.length
    have e3 := rv3.length
    have hh := I.ok.hd hc
    have D1 := Draws.tuple (prog := X.prog) (w := X.w) (A := X.A.in1) hh i1 a na its.toArray
    have D2 := Draws.tuple (prog := X.prog) (w := X.w) (A := X.A.in1) hh i2 b nb its2.toArray
    have D3 := Draws.list (prog := X.prog) (w := X.w) (A := X.A.in1) hh i3 c nc its3.toArray
    refine wpAny_pyNext_zipD3_end D D1 D2 D3 hz hTI hTO ⟨h1, p⟩ ⟨h2, p2⟩ ⟨h3, p3.isList⟩ (by rw [List.size_toArray]; omega) (by rw [List.size_toArray]; omega) (by rw [List.size_toArray]; omega) (by rw [List.size_toArray, List.size_toArray, List.size_toArray]; omega) fun h' tk hk => ⟨rfl, I.turnedL (t' := tk) (ch := [z, TI, TO, i1, i2, i3]) (fun q o hb e =>
      hk q o (fun q' => hb (by simp [q'])) (fun q' => hb (by simp [q'])) (fun q' => hb (by simp [q'])) (fun q' => hb (by simp [q'])) (fun q' => hb (by simp [q'])) e) hf⟩
  self := fun A i s Q E st h => wpAny_pyIter_zip st.1 h
def iZip3 (K : PySem.W.Frag) (ta : TA) : TI := fun σ H R => ta σ H fun vs H1 => ∃ a b c xs ys zs, vs = [.ref a, .ref b, .ref c] ∧ SqT K H1 a xs ∧ SqT K H1 b ys ∧ SqL K H1 c zs ∧ R (Itz3 K a b c) H1
theorem pi_zip3 {X : Cx} {e e2 e3 : Expr} {ta : TA} {p pos tpos : Pos} {elts : List Expr} {kk : Nat} (hg : Gl X "zip") (hm : X.mg "zip" = none) (ha : PA X [e, e2, e3] ta)
    (hs : starEach [e, e2, e3] X.env = (false, eval e X.env) :: starEach [e2, e3] X.env := by rfl) (hpl : (backTo pos (starEach [e2, e3] X.env)).any (·.1) = false := by rfl) :
    PI X (.Tuple elts kk tpos) (.Call (.Name "zip" p) [e, e2, e3] [] pos) (iZip3 X.K ta) := by
  refine ⟨fun pins s σ H R I h => ?_⟩
  refine Call_ (ld_blt I hg hm PyProof.Rows.boot_zip (PyProof.Rows.callWith_type1 (thn (ha.run pos pins s σ H _ I h) fun us s1 ⟨vs, H1, I1, r1, q1⟩ => ?_) hs hpl))
  obtain ⟨a, b, c, xs, ys, zs, ex, hqx, hqy, hqz, q⟩ := q1
  subst ex
  cases r1 with
  | cons r rr =>
  cases rr with
  | cons r' rr =>
  cases rr with
  | cons r'' rr =>
  cases rr
  cases r
  cases r'
  cases r''
  obtain ⟨its, rv, p1, _⟩ := I1.tuple hqx
  obtain ⟨its2, rv2, p2, _⟩ := I1.tuple hqy
  obtain ⟨its3, rv3, p3, _⟩ := I1.list hqz
  have la : a < s1.heap.objs.size := by
    obtain ⟨o, ho, _⟩ := id p1
    exact Heap.lt_size ho
  have lb : b < s1.heap.objs.size := by
    obtain ⟨o, ho, _⟩ := id p2
    exact Heap.lt_size ho
  have lc : c < s1.heap.objs.size := p3.lt
  refine zip_begins3 (begins_tuple a its.toArray) (begins_tuple b its2.toArray) (begins_list c its3.toArray) p1 p2 p3.isList fun h' hz hTI hTO g1 g2 g3 hsz hk => wpAny_pyIter_zip hz ?_
  have I2 : Inv X pins σ H1 { s1 with heap := h' } := I1.kept (t' := s1.toks) hk
  have S := zip_sep3 (N := s1.heap.objs.size) (fp1 := [a]) (fp2 := [b]) (fp3 := [c]) (by simpa using la) (by simpa using lb) (by simpa using lc)
  refine ⟨s1.heap.objs.size + 5, [s1.heap.objs.size + 5, s1.heap.objs.size + 3, s1.heap.objs.size + 4, s1.heap.objs.size, s1.heap.objs.size + 1, s1.heap.objs.size + 2], _, _, H1, rfl, I2, turn_zip3 S (Nat.ne_of_lt la) (Nat.ne_of_lt (Nat.lt_succ_of_lt lb)) (Nat.ne_of_lt (Nat.lt_succ_of_lt (Nat.lt_succ_of_lt lc))) ⟨Nat.ne_of_lt (by omega), Nat.ne_of_lt (by omega), Nat.ne_of_lt (by omega)⟩, ⟨hz, hTI, ⟨_, _, _, hTO⟩, ⟨_, g1, rfl, rfl⟩, ⟨_, g2, rfl, rfl⟩, ⟨_, g3, rfl, rfl⟩⟩, fun d hd => ?_, q⟩
  have e' : d = s1.heap.objs.size + 5 ∨ d = s1.heap.objs.size + 3 ∨ d = s1.heap.objs.size + 4 ∨ d = s1.heap.objs.size ∨ d = s1.heap.objs.size + 1 ∨ d = s1.heap.objs.size + 2 := by simpa using hd
  have hle : s1.heap.objs.size ≤ d := by
    rcases e' with z | z | z | z | z | z
    · rw [z]; exact Nat.le_add_right _ _
    · rw [z]; exact Nat.le_add_right _ _
    · rw [z]; exact Nat.le_add_right _ _
    · rw [z]; exact Nat.le_refl _
    · rw [z]; exact Nat.le_add_right _ _
    · rw [z]; exact Nat.le_add_right _ _
  exact I1.fpOk hle (I1.hok.fresh hle)
/-- a loop over it, all of one length -/
theorem for_zip3 {K : PySem.W.Frag} {a b c : Addr} {xs ys zs : List V} {g : TG} {tb : TS} {D : Ends} {σ : L2.St} {H : Hp} (hl : xs.length = ys.length) (hl2 : xs.length = zs.length) (Pv : Nat → L2.St → Hp → Prop) (h0 : Pv 0 σ H) (hq : ∀ i σ H, Pv i σ H → SqT K H a xs ∧ SqT K H b ys ∧ SqL K H c zs)
    (hs : ∀ (i : Nat) (x y u : V) (T : Addr) (σ : L2.St) (H : Hp), xs[i]? = some x → ys[i]? = some y → zs[i]? = some u → Pv i σ H → H T = none → g (.ref T) σ (upd H T (.tup [x, y, u])) fun σ2 H2 => tb { D with nx := Pv (i + 1), ct := Pv (i + 1), bk := D.nx } σ2 H2) (hd : ∀ σ H, Pv xs.length σ H → D.nx σ H) :
    ∃ W : Nat → Nat → L2.St → Hp → Prop, (∃ m, W 0 m σ H) ∧ ∀ i m σ H, W i m σ H →
      ((Itz3 K a b c).stop i H ∧ D.nx σ H) ∨ ((Itz3 K a b c).go i H ∧ ∃ N : L2.St → Hp → Prop, (∀ σ' H', N σ' H' → ∃ m', m' < m ∧ W (i + 1) m' σ' H') ∧ ∀ v H', (Itz3 K a b c).yld i H v H' → g v σ H' fun σ2 H2 => tb { D with nx := N, ct := N, bk := D.nx } σ2 H2) := by
  refine ⟨fun i m σ H => m = xs.length - i ∧ i ≤ xs.length ∧ Pv i σ H, ⟨xs.length, rfl, Nat.zero_le _, h0⟩, ?_⟩
  rintro i m σ H ⟨rfl, hi, p⟩
  obtain ⟨qx, qy, qz⟩ := hq i σ H p
  by_cases hlt : i < xs.length
  · have hx : xs[i]? = some xs[i] := List.getElem?_eq_getElem hlt
    have hy : ys[i]? = some (ys[i]'(by omega)) := List.getElem?_eq_getElem (by omega)
    have hz : zs[i]? = some (zs[i]'(by omega)) := List.getElem?_eq_getElem (by omega)
    refine .inr ⟨⟨xs, ys, zs, _, _, _, qx, qy, qz, hx, hy, hz⟩, Pv (i + 1), fun σ' H' p' => ⟨xs.length - (i + 1), by omega, rfl, hlt, p'⟩, fun v H' y => ?_⟩
    obtain ⟨T, x', y', u', rfl, hT, rfl, f1, f2, f3⟩ := y
    exact hs i x' y' u' T σ H (f1 xs qx) (f2 ys qy) (f3 zs qz) p hT
  · have e : i = xs.length := by omega
    subst e
    exact .inl ⟨⟨xs, ys, zs, qx, qy, qz, Nat.le_refl _, Nat.le_of_eq hl, Nat.le_of_eq hl2, .inl rfl⟩, hd σ H p⟩
end L2
set_option Elab.async false
set_option linter.all false
set_option maxRecDepth 100000
set_option maxHeartbeats 4000000
namespace K27
open PySem PySem.Spec PyProof.Rows L2 Dt
/-! ### need_absent -/
def absentB (kv : List (Key × V)) (o : Option Int) : Bool := belowB packB o && (match o with | some i => !(valV kv (Sum.inl i : Key)).isSome | none => false)
def spAbsent (K : PySem.W.Frag) (CS U : Addr) : Sp := fun vs H Q E => ∃ (a dx ta la sd : Addr) (x : V) (o : Option Int) (kv : List (Key × V)), vs = [.ref a, x] ∧ H a = some (.ins CS dx (stS ta la sd)) ∧ H sd = some (.dK kv) ∧ NumV K H x o ∧
  (absentB kv o = true → Q .non H) ∧ (absentB kv o = false → ∀ H', Same H H' → Out U "number" H' E)
section
variable {P : Program} {w : World} {K : PySem.W.Frag} {mg : Str → Option Value} {base : Heap} {C CS U : Addr}
theorem ok_absent (D : DefAt K mg "need_absent" s_need_absent ["standing", "number"]) (SC : StCl K CS) (mp : ∃ t, mg "PACKET_BOUND" = some (.int packB t)) (GB : CalX P w K mg base CX0 3 "is_below" ["thing", "bound"] (spBelow K)) (GN : CalX P w K mg base (L2.CX P w) 3 "need" ["fits", "word"] (spNeed U)) :
    CalX P w K mg base (L2.CX P w) 4 "need_absent" ["standing", "number"] (spAbsent K CS U) := by
  obtain ⟨tk, mp⟩ := mp
  refine D.okX sc_need_absent (fun vs H Q E h => ?_) (fun f cdv A outer s H vs Q E hr h => ?_)
  · obtain ⟨a, dx, ta, la, sd, x, o, kv, rfl, _⟩ := h
    rfl
  obtain ⟨a, dx, ta, la, sd, x, o, kv, rfl, hob, hsd, hx, q1, q2⟩ := h
  have hu := hu_of hr
  refine ⟨_, pss_one (ps_expr (pe_cx GN hr (by decide) rfl (passes_call (takes_of rfl rfl rfl rfl) (fun _ _ _ _ h => h)) (pa_cons (pe_and (pe_c0 GB hr (by decide) rfl (pa_cons (pv 1) (pa_cons (pe_glob (v := .int packB) (by rfl) mp ⟨_, rfl⟩) pa_nil))) (pe_one (pe_cmp (pc_dnotin hu (pv 1) (pe_fld (pv 0) rfl))))) (pa_cons pe_str pa_nil)))), ?_⟩
  refine ⟨_, rfl, x, o, packB, rfl, hx, _, rfl, ?_⟩
  have fin : ∀ b, absentB kv o = b → spNeed U [.bl b, .str (Str.ofString "number")] H (fun _ H' => Q .non H') E := fun b hb => ⟨b, _, rfl, fun e => q1 (hb.trans e), fun e d hd => q2 (hb.trans e) H (fun _ _ z => z) d hd⟩
  cases hb : belowB packB o with
  | false =>
    refine iteF ?_
    exact fin false (by unfold absentB; rw [hb]; rfl)
  | true =>
    refine iteT ?_
    cases o with
    | none => exact nomatch hb
    | some i =>
      obtain rfl : x = .int i := hx
      refine ⟨_, rfl, _, rfl, a, CS, dx, _, _, rfl, hob, SC.cl, SC.nS, rfl, sd, _, rfl, .inl ⟨kv, (Sum.inl i : Key), .inl hsd, rfl, rfl⟩, ?_⟩
      refine fin _ ?_
      unfold absentB
      rw [hb]
      rfl
end
end K27
set_option Elab.async false
set_option linter.all false
set_option maxRecDepth 100000
set_option maxHeartbeats 4000000
namespace K27
open PySem PySem.Spec PyProof.Rows L2 Dt
/-! ### Standing: form_of, all_lines -/
def rTupQ (K : PySem.W.Frag) : List V → Hp → VK → Prop := fun xs H Q => ∃ p ys, xs = [.ref p] ∧ ((SqL K H p ys ∧ ∀ l, H l = none → Q (.ref l) (upd H l (.tup ys))) ∨ (SqT K H p ys ∧ Q (.ref p) H))
theorem call_tuple_ofK {X : Cx} {K : PySem.W.Frag} (hK : X.K = K) : CallR X (.type "tuple") (rTupQ K) := by
  subst hK
  exact call_tuple_of
def spStForm (K : PySem.W.Frag) (C CS : Addr) : Sp := fun vs H Q _ => ∃ (a dx ta la sd : Addr) (Ls : List Addr) (T : Dt) (xs : Nat → List V) (kv : List (Key × V)), vs = [.ref a] ∧ Stand K C CS H a dx ta la sd Ls T xs kv ∧ ∀ fv, ShV K H fv T → Q fv H
def spAllLines (K : PySem.W.Frag) (C CS : Addr) : Sp := fun vs H Q _ => ∃ (a dx ta la sd : Addr) (Ls : List Addr) (T : Dt) (xs : Nat → List V) (kv : List (Key × V)), vs = [.ref a] ∧ Stand K C CS H a dx ta la sd Ls T xs kv ∧ Ls.length ≤ 1000 ∧
  ∀ H' p (Ts : List Addr), Same H H' → H' p = some (.tup (Ts.map V.ref)) → Ts.length = Ls.length → (∀ i t, Ts[i]? = some t → H' t = some (.tup (xs i)) ∧ H t = none) → H p = none → Q (.ref p) H'
section
variable {P : Program} {w : World} {K : PySem.W.Frag} {mg : Str → Option Value} {base : Heap} {C CS U fG : Addr}
end
end K27
set_option Elab.async false
set_option linter.all false
set_option maxRecDepth 100000
set_option maxHeartbeats 4000000
namespace K27
open PySem PySem.Spec PyProof.Rows L2
/-! ### an entry put in its place leaves a line -/
theorem line_of_facts : ∀ (ds : List PyData) (last : List Int), (∀ d ∈ ds, IsEn d) → (rksOf ds).Pairwise (fun p q => HT.lexLt q p = false) → (∀ r ∈ rksOf ds, HT.lexLt r last = false) → lineGo last ds = true
  | [], _, _, _, _ => rfl
  | e :: ds, last, h1, h2, h3 => by
    obtain ⟨rk, it, rfl, hr⟩ := h1 e (List.mem_cons_self ..)
    have e1 : rksOf (.tuple [rk, it] :: ds) = rkInts rk :: rksOf ds := rfl
    rw [e1] at h2 h3
    obtain ⟨p1, p2⟩ := List.pairwise_cons.mp h2
    rw [lineGo_pair, hr, h3 _ (List.mem_cons_self ..), line_of_facts ds (rkInts rk) (fun d hd => h1 d (List.mem_cons_of_mem _ hd)) p2 (fun r hr => p1 r hr)]
    rfl
def insD (ds : List PyData) (p : Nat) (e : PyData) : List PyData := ds.take p ++ [e] ++ ds.drop p
theorem lex_nil (xs : List Int) : HT.lexLt xs [] = false := by cases xs <;> rfl
theorem insert_line {ds : List PyData} {rk it : PyData} {p : Nat} (h : lineOf (.tuple ds) = true) (hr : rankOf rk = true) (hp : PlaceIs (rksOf ds) (rkInts rk) p) : lineOf (.tuple (insD ds p (.tuple [rk, it]))) = true := by
  obtain ⟨h1, h2, _⟩ := line_facts ds [] h
  have er : rksOf (insD ds p (.tuple [rk, it])) = (rksOf ds).take p ++ [rkInts rk] ++ (rksOf ds).drop p := by
    unfold insD rksOf
    rw [List.map_append, List.map_append, List.map_take, List.map_drop]
    rfl
  refine line_of_facts _ [] (fun d hd => ?_) ?_ fun r _ => lex_nil r
  · rcases List.mem_append.mp hd with hd | hd
    · rcases List.mem_append.mp hd with hd | hd
      · exact h1 d (List.mem_of_mem_take hd)
      · rw [List.mem_singleton.mp hd]
        exact ⟨rk, it, rfl, hr⟩
    · exact h1 d (List.mem_of_mem_drop hd)
  · rw [er]
    have hpair : ((rksOf ds).take p ++ (rksOf ds).drop p).Pairwise (fun p q => HT.lexLt q p = false) := by
      rw [List.take_append_drop]
      exact h2
    obtain ⟨a1, a2, a3⟩ := List.pairwise_append.mp hpair
    have low : ∀ s ∈ (rksOf ds).take p, HT.lexLt (rkInts rk) s = false := fun s hs => by
      obtain ⟨i, hi⟩ := List.mem_iff_getElem?.mp hs
      have hil := (List.getElem?_eq_some_iff.mp hi).1
      rw [List.length_take] at hil
      rw [List.getElem?_take_of_lt (by omega)] at hi
      exact hp.lo i s (by omega) hi
    have high : ∀ s ∈ (rksOf ds).drop p, HT.lexLt s (rkInts rk) = false := fun s hs => by
      obtain ⟨i, hi⟩ := List.mem_iff_getElem?.mp hs
      rw [List.getElem?_drop] at hi
      exact NtL.lex_asym _ _ (hp.hi (p + i) s (by omega) hi)
    rw [List.append_assoc]
    refine List.pairwise_append.mpr ⟨a1, List.pairwise_cons.mpr ⟨fun s hs => high s hs, a2⟩, fun s hs t ht => ?_⟩
    rcases List.mem_cons.mp ht with rfl | ht
    · exact low s hs
    · exact a3 s hs t ht
theorem place_count {rs : List (List Int)} {r : List Int} {p q : Nat} (h : PlaceIs rs r p) (g : PlaceIs rs r q) : p = q := by
  rcases Nat.lt_trichotomy p q with c | c | c
  · have hl : p < rs.length := Nat.lt_of_lt_of_le c g.le
    have e : rs[p]? = some (rs[p]'hl) := List.getElem?_eq_getElem hl
    have z1 := h.hi p _ (Nat.le_refl _) e
    rw [g.lo p _ c e] at z1
    exact nomatch z1
  · exact c
  · have hl : q < rs.length := Nat.lt_of_lt_of_le c h.le
    have e : rs[q]? = some (rs[q]'hl) := List.getElem?_eq_getElem hl
    have z1 := g.hi q _ (Nat.le_refl _) e
    rw [h.lo q _ c e] at z1
    exact nomatch z1
/-! ### a pushed packet: the lines along its way -/
/-- from lines to lines, an entry for each node of the way -/
inductive Pushed : (Nat → List PyData) → List (Nat × PyData × Int) → (Nat → List PyData) → Prop
  | nil (ds : Nat → List PyData) : Pushed ds [] ds
  | cons {ds es : Nat → List PyData} {n : Nat} {rk : PyData} {it : Int} {r : List (Nat × PyData × Int)} {p : Nat} (hp : PlaceIs (rksOf (ds n)) (rkInts rk) p) (t : Pushed (fun i => if i = n then insD (ds n) p (.tuple [rk, .int it]) else ds i) r es) : Pushed ds ((n, rk, it) :: r) es
theorem Pushed.lines {ds es : Nat → List PyData} {r : List (Nat × PyData × Int)} (h : Pushed ds r es) (hr : ∀ e ∈ r, rankOf e.2.1 = true) (hd : ∀ i, lineOf (.tuple (ds i)) = true) : ∀ i, lineOf (.tuple (es i)) = true := by
  induction h with
  | nil ds => exact hd
  | @cons ds es n rk it r p hp t ih =>
    refine ih (fun e he => hr e (List.mem_cons_of_mem _ he)) fun i => ?_
    dsimp only
    by_cases c : i = n
    · rw [if_pos c]
      exact insert_line (hd n) (hr _ (List.mem_cons_self ..)) hp
    · rw [if_neg c]
      exact hd i
end K27
set_option Elab.async false
set_option linter.all false
set_option maxRecDepth 100000
set_option maxHeartbeats 4000000
namespace K27
open PySem PySem.Spec PyProof.Rows L2 Dt
/-! data without lists: lists may change -/
mutual
def noL : PyData → Bool
  | .list _ => false
  | .dict _ => false
  | .tuple ds => noLs ds
  | .none => true
  | .bool _ => true
  | .int _ => true
  | .str _ => true
def noLs : List PyData → Bool
  | [] => true
  | d :: ds => noL d && noLs ds
end
theorem keep_sqt {K : PySem.W.Frag} {H H' : Hp} {a : Addr} {xs : List V} (k : KeepT H H') (h : SqT K H a xs) : SqT K H' a xs := by
  rcases h with (h | ⟨o, h⟩) | h
  · exact .inl (.inl ((k _ _).1 h))
  · exact .inl (.inr ⟨o, (k _ _).2 o h⟩)
  · exact .inr h
theorem dps_keep {K : PySem.W.Frag} {H H' : Hp} (k : KeepT H H') : ∀ {vs : List V} {ds : List PyData}, DpAll K H vs ds → noLs ds = true → DpAll K H' vs ds
  | _, _, .nil, _ => .nil
  | _, _, @DpAll.cons _ _ v vs d ds h q, n => by
    unfold noLs at n
    rw [Bool.and_eq_true] at n
    have hq := dps_keep k q n.2
    have n1 := n.1
    cases h with
    | tup hs ha =>
      unfold noL at n1
      exact .cons (.tup (keep_sqt k hs) (dps_keep k ha n1)) hq
    | non => exact .cons .non hq
    | bl b => exact .cons (.bl b) hq
    | int i => exact .cons (.int i) hq
    | str z => exact .cons (.str z) hq
    | lst _ _ =>
      unfold noL at n1
      exact nomatch n1
theorem dp_keep {K : PySem.W.Frag} {H H' : Hp} (k : KeepT H H') {v : V} {d : PyData} (h : Dp K H v d) (n : noL d = true) : Dp K H' v d := by
  have := dps_keep (vs := [v]) (ds := [d]) k (.cons h .nil) (by unfold noLs; rw [n]; unfold noLs; rfl)
  cases this with
  | cons h _ => exact h
def intsD (l : List Int) : PyData := .tuple (l.map PyData.int)
theorem noL_ints : ∀ l : List Int, noLs (l.map PyData.int) = true
  | [] => by unfold noLs; rfl
  | i :: l => by
    rw [List.map_cons]
    unfold noLs
    rw [noL_ints l]
    unfold noL
    rfl
theorem noL_ranks : ∀ rs : List (List Int), noLs (rs.map intsD) = true
  | [] => by unfold noLs; rfl
  | r :: rs => by
    rw [List.map_cons]
    unfold noLs
    rw [noL_ranks rs]
    unfold intsD noL
    rw [noL_ints]
    rfl

theorem noLs_app : ∀ a b : List PyData, noLs (a ++ b) = (noLs a && noLs b)
  | [], b => by
    show noLs b = (noLs [] && noLs b)
    unfold noLs
    rfl
  | d :: a, b => by
    have e1 : ∀ l, noLs (d :: l) = (noL d && noLs l) := fun l => by rw [noLs]
    rw [List.cons_append, e1, e1, noLs_app a b, Bool.and_assoc]
theorem noLs_take {p : Nat} {ds : List PyData} (h : noLs ds = true) : noLs (ds.take p) = true ∧ noLs (ds.drop p) = true := by
  have e := noLs_app (ds.take p) (ds.drop p)
  rw [List.take_append_drop, h] at e
  exact Bool.and_eq_true_iff.mp e.symm
theorem noL_rank {rk : PyData} (h : rankOf rk = true) : noL rk = true := by
  cases rk with
  | tuple ds =>
    have h' : (decide (ds.length ≤ 8) && ds.all partB) = true := h
    rw [Bool.and_eq_true] at h'
    unfold noL
    have g : ∀ l : List PyData, l.all partB = true → noLs l = true := by
      intro l
      induction l with
      | nil => intro _; unfold noLs; rfl
      | cons d l ih =>
        intro hl
        rw [List.all_cons, Bool.and_eq_true] at hl
        unfold noLs
        rw [ih hl.2, Bool.and_true]
        cases d with
        | int i => unfold noL; rfl
        | none => exact nomatch hl.1
        | bool _ => exact nomatch hl.1
        | str _ => exact nomatch hl.1
        | list _ => exact nomatch hl.1
        | tuple _ => exact nomatch hl.1
        | dict _ => exact nomatch hl.1
    exact g ds h'.2
  | _ => exact nomatch h
theorem noL_insert {ds : List PyData} {p : Nat} {rk : PyData} {it : Int} (h : noLs ds = true) (hr : rankOf rk = true) : noLs (insD ds p (.tuple [rk, .int it])) = true := by
  have e := noL_rank hr
  obtain ⟨h1, h2⟩ := noLs_take (p := p) h
  unfold insD
  rw [noLs_app, noLs_app, h1, h2]
  simp [noLs, noL, e]
/-- a standing whose lines hold these data -/
structure StD (K : PySem.W.Frag) (C CS : Addr) (H : Hp) (a dx ta la sd : Addr) (Ls : List Addr) (T : Dt) (ds : Nat → List PyData) (kv : List (Key × V)) : Prop where
  st : ∃ xs, Stand K C CS H a dx ta la sd Ls T xs kv ∧ ∀ i, i < T.nodes → DpAll K H (xs i) (ds i)
  ln : ∀ i, lineOf (.tuple (ds i)) = true
  no : ∀ i, noLs (ds i) = true
theorem Tree.keepL {K : PySem.W.Frag} {H H' : Hp} {C ta : Addr} {T : Dt} (t : Tree K H C ta T) (h : ∀ dx fv L S, TreeAt C H ta dx fv L S → TreeAt C H' ta dx fv L S) (k : KeepT H H') : Tree K H' C ta T := by
  obtain ⟨dx, fv, L, S, h1, h2, h3, h4⟩ := t
  exact ⟨dx, fv, L, S, h dx fv L S h1, fun i hi => Paired.mono (fun v q c => Cell.keep k i v q c) (h2 i hi), h3.keep k, h4⟩
end K27
set_option Elab.async false
set_option linter.all false
set_option maxRecDepth 100000
set_option maxHeartbeats 4000000
namespace K27
open PySem PySem.Spec PyProof.Rows L2
open Dt (sub sub_nil sub_app sub_one sub_pre)
/-! ### lines by addresses: orders, departures, pushes -/
abbrev En := List Int × Int
abbrev Lns := Ad → List En
def sh (j : Nat) (L : Lns) : Lns := fun q => L (j :: q)
def its (l : List En) : List Int := l.map (·.2)
def chs (l : List En) : List Nat := l.map fun e => e.2.toNat
def dropAt (o : Nat → List Int) (c : Nat) : Nat → List Int := fun j => if j = c then (o j).tail else o j
/-- each child gives the next of its order -/
def mrg : List Nat → (Nat → List Int) → List Int
  | [], _ => []
  | c :: cs, o => (o c).headD 0 :: mrg cs (dropAt o c)
theorem mrg_len : ∀ (cs : List Nat) (o : Nat → List Int), (mrg cs o).length = cs.length
  | [], _ => rfl
  | c :: cs, o => by
    show (mrg cs (dropAt o c)).length + 1 = _
    rw [mrg_len cs]
    rfl
def Enough (cs : List Nat) (o : Nat → List Int) : Prop := ∀ j, cs.count j ≤ (o j).length
theorem Enough.tail {c : Nat} {cs : List Nat} {o : Nat → List Int} (h : Enough (c :: cs) o) : Enough cs (dropAt o c) := fun j => by
  have := h j
  unfold dropAt
  by_cases e : j = c
  · subst e
    rw [if_pos rfl, List.length_tail]
    rw [List.count_cons_self] at this
    omega
  · rw [if_neg e]
    rw [List.count_cons_of_ne (Ne.symm e)] at this
    exact this
theorem Enough.head {c : Nat} {cs : List Nat} {o : Nat → List Int} (h : Enough (c :: cs) o) : ∃ x t, o c = x :: t := by
  have := h c
  rw [List.count_cons_self] at this
  cases e : o c with
  | nil =>
    rw [e] at this
    exact absurd this (by simp)
  | cons x t => exact ⟨x, t, rfl⟩
theorem mrg_mem : ∀ (cs : List Nat) (o : Nat → List Int), Enough cs o → ∀ x ∈ mrg cs o, ∃ j, j ∈ cs ∧ x ∈ o j
  | [], _, _, x, h => nomatch h
  | c :: cs, o, hn, x, h => by
    obtain ⟨y, t, ey⟩ := hn.head
    rcases List.mem_cons.mp (show x ∈ (o c).headD 0 :: mrg cs (dropAt o c) from h) with e | h
    · refine ⟨c, List.mem_cons_self .., ?_⟩
      rw [e, ey]
      exact List.mem_cons_self ..
    · obtain ⟨j, hj, hx⟩ := mrg_mem cs _ hn.tail x h
      refine ⟨j, List.mem_cons_of_mem _ hj, ?_⟩
      unfold dropAt at hx
      by_cases e : j = c
      · rw [if_pos e] at hx
        exact List.mem_of_mem_tail hx
      · rw [if_neg e] at hx
        exact hx
theorem mrg_filter2 (P : Int → Bool) : ∀ (cs : List Nat) (o : Nat → List Int) (j : Nat), Enough cs o → (∀ i, i ∈ cs → i ≠ j → ∀ x ∈ o i, P x = false) → (mrg cs o).filter P = ((o j).take (cs.count j)).filter P
  | [], _, _, _, _ => rfl
  | c :: cs, o, j, hn, hi => by
    obtain ⟨y, t, ey⟩ := hn.head
    have ih := mrg_filter2 P cs (dropAt o c) j hn.tail (fun i hic e x hx => by
      unfold dropAt at hx
      by_cases e2 : i = c
      · rw [if_pos e2] at hx
        exact hi i (List.mem_cons_of_mem _ hic) e x (List.mem_of_mem_tail hx)
      · rw [if_neg e2] at hx
        exact hi i (List.mem_cons_of_mem _ hic) e x hx)
    have e1 : mrg (c :: cs) o = y :: mrg cs (dropAt o c) := by
      show (o c).headD 0 :: _ = _
      rw [ey]
      rfl
    rw [e1, List.filter_cons, ih]
    by_cases e : c = j
    · subst e
      have : dropAt o c c = t := by
        unfold dropAt
        rw [if_pos rfl, ey]
        rfl
      rw [this, ey, List.count_cons_self, List.take_succ_cons, List.filter_cons]
    · have ny := hi c (List.mem_cons_self ..) e y (by rw [ey]; exact List.mem_cons_self ..)
      have : dropAt o c j = o j := by
        unfold dropAt
        rw [if_neg (Ne.symm e)]
      rw [ny, this, List.count_cons_of_ne e]
      rfl
theorem mrg_congr : ∀ (cs : List Nat) (o o' : Nat → List Int), (∀ j ∈ cs, o j = o' j) → mrg cs o = mrg cs o'
  | [], _, _, _ => rfl
  | c :: cs, o, o', h => by
    show (o c).headD 0 :: mrg cs (dropAt o c) = (o' c).headD 0 :: mrg cs (dropAt o' c)
    rw [h c (List.mem_cons_self ..), mrg_congr cs (dropAt o c) (dropAt o' c) fun j hj => by
      unfold dropAt
      rw [h j (List.mem_cons_of_mem _ hj)]]
theorem mrg_snoc (n : Int) : ∀ (cs : List Nat) (o : Nat → List Int) (j : Nat), Enough cs o → cs.count j = (o j).length → mrg (cs ++ [j]) (fun i => if i = j then o i ++ [n] else o i) = mrg cs o ++ [n]
  | [], o, j, hn, h => by
    have e : o j = [] := List.eq_nil_of_length_eq_zero (by rw [← h]; rfl)
    show [((fun i => if i = j then o i ++ [n] else o i) j).headD 0] = [n]
    simp [e]
  | c :: cs, o, j, hn, h => by
    obtain ⟨y, t, ey⟩ := hn.head
    have ih := mrg_snoc n cs (dropAt o c) j hn.tail (by
      unfold dropAt
      by_cases e : j = c
      · subst e
        rw [if_pos rfl, List.length_tail]
        rw [List.count_cons_self] at h
        omega
      · rw [if_neg e, ← h, List.count_cons_of_ne (Ne.symm e)])
    show ((if c = j then o c ++ [n] else o c).headD 0) :: mrg (cs ++ [j]) (dropAt (fun i => if i = j then o i ++ [n] else o i) c) = ((o c).headD 0 :: mrg cs (dropAt o c)) ++ [n]
    have e1 : (if c = j then o c ++ [n] else o c).headD 0 = (o c).headD 0 := by
      split
      · rw [ey]
        rfl
      · rfl
    have e2 : dropAt (fun i => if i = j then o i ++ [n] else o i) c = fun i => if i = j then dropAt o c i ++ [n] else dropAt o c i := by
      funext i
      unfold dropAt
      by_cases a : i = c
      · subst a
        dsimp only
        by_cases b : i = j
        · rw [if_pos rfl, if_pos b, if_pos b, if_pos rfl, ey]
          rfl
        · rw [if_pos rfl, if_neg b, if_neg b, if_pos rfl]
      · rw [if_neg a, if_neg a]
    rw [e1, e2, ih]
    rfl
/-! the order of a node -/
def ordK : Dt → Lns → Nat → List (List Int)
  | .c k r, L, j => (if k.len = 0 then its (L [j]) else mrg (chs (L [j])) fun i => (ordK k (sh j L) 0).getD i []) :: ordK r L (j + 1)
  | _, _, _ => []
def ord (u : Dt) (L : Lns) : List Int := if u.len = 0 then its (L []) else mrg (chs (L [])) fun i => (ordK u L 0).getD i []
theorem ordK_c (k r : Dt) (L : Lns) (j : Nat) : ordK (.c k r) L j = ord k (sh j L) :: ordK r L (j + 1) := by
  rw [ordK]
  rfl
theorem ordK_at : ∀ (u : Dt) (L : Lns) (j i : Nat) (k : Dt), u.kids[i]? = some k → (ordK u L j)[i]? = some (ord k (sh (j + i) L))
  | .x, _, _, _, _, h => by simp [Dt.kids] at h
  | .o, _, _, _, _, h => by simp [Dt.kids] at h
  | .c k r, L, j, 0, k', h => by
    have e : k = k' := by simpa [Dt.kids] using h
    rw [ordK_c, e]
    rfl
  | .c k r, L, j, i + 1, k', h => by
    rw [ordK_c, List.getElem?_cons_succ]
    have := ordK_at r L (j + 1) i k' (by simpa [Dt.kids] using h)
    rw [this, show j + 1 + i = j + (i + 1) by omega]
theorem ordK_len : ∀ (u : Dt) (L : Lns) (j : Nat), (ordK u L j).length = u.len
  | .x, _, _ => by simp [ordK, Dt.len]
  | .o, _, _ => by simp [ordK, Dt.len]
  | .c k r, L, j => by
    rw [ordK_c, List.length_cons, ordK_len r]
    rfl
/-- the order of child i -/
def ordC (u : Dt) (L : Lns) (i : Nat) : List Int := (ordK u L 0).getD i []
theorem ordC_at {u k : Dt} {L : Lns} {i : Nat} (h : u.kids[i]? = some k) : ordC u L i = ord k (sh i L) := by
  unfold ordC
  rw [List.getD_eq_getElem?_getD, ordK_at u L 0 i k h, Nat.zero_add]
  rfl
theorem ord_leaf {u : Dt} {L : Lns} (h : u.len = 0) : ord u L = its (L []) := if_pos h
theorem ord_fork {u : Dt} {L : Lns} (h : u.len ≠ 0) : ord u L = mrg (chs (L [])) (ordC u L) := if_neg h
theorem ord_length (u : Dt) (L : Lns) : (ord u L).length = (L []).length := by
  by_cases h : u.len = 0
  · rw [ord_leaf h]
    exact List.length_map ..
  · rw [ord_fork h, mrg_len]
    exact List.length_map ..
theorem kid_of {u : Dt} {j : Nat} (h : j < u.len) : ∃ k, u.kids[j]? = some k := ⟨_, List.getElem?_eq_getElem (by rw [Dt.kids_len]; exact h)⟩
theorem kid_lt {u k : Dt} {j : Nat} (h : u.kids[j]? = some k) : j < u.len := by
  rw [← Dt.kids_len]
  exact (List.getElem?_eq_some_iff.mp h).1
theorem sub_kid {u k : Dt} {j : Nat} (h : u.kids[j]? = some k) (q : Ad) : sub u (j :: q) = sub k q := by
  have h1 := sub_one u j
  rw [h] at h1
  exact (sub_app u [j] k h1 q).1
theorem sub_len {u w : Dt} {j : Nat} {q : Ad} (h : sub u (j :: q) = some w) : ∃ k, u.kids[j]? = some k ∧ sub k q = some w := by
  obtain ⟨k, hk⟩ := sub_pre u [j] q w h
  have h1 := sub_one u j
  rw [h1] at hk
  exact ⟨k, hk, by rw [← sub_kid hk]; exact h⟩
/-- each fork's line has its children as often as these have entries -/
structure Con (u : Dt) (L : Lns) : Prop where
  it : ∀ q w, sub u q = some w → w.len ≠ 0 → ∀ e ∈ L q, ∃ j, j < w.len ∧ e.2 = (j : Nat)
  ct : ∀ q w j, sub u q = some w → j < w.len → (chs (L q)).count j = (L (q ++ [j])).length
theorem Con.kid {u k : Dt} {L : Lns} (c : Con u L) {j : Nat} (h : u.kids[j]? = some k) : Con k (sh j L) :=
  ⟨fun q w hw => c.it (j :: q) w (by rw [sub_kid h]; exact hw), fun q w i hw hi => c.ct (j :: q) w i (by rw [sub_kid h]; exact hw) hi⟩
theorem Con.chs_lt {u : Dt} {L : Lns} (c : Con u L) (h : u.len ≠ 0) : ∀ j ∈ chs (L []), j < u.len := fun j hj => by
  obtain ⟨e, he, rfl⟩ := List.mem_map.mp hj
  obtain ⟨i, hi, ei⟩ := c.it [] u (sub_nil u) h e he
  rw [ei]
  exact hi
theorem Con.enough {u : Dt} {L : Lns} (c : Con u L) (h : u.len ≠ 0) : Enough (chs (L [])) (ordC u L) := fun j => by
  by_cases hj : j < u.len
  · obtain ⟨k, hk⟩ := kid_of hj
    rw [ordC_at hk, ord_length, c.ct [] u j (sub_nil u) hj]
    exact Nat.le_refl _
  · rw [List.count_eq_zero.mpr fun z => hj (c.chs_lt h j z)]
    exact Nat.zero_le _
theorem Con.exact {u : Dt} {L : Lns} (c : Con u L) {j : Nat} (hj : j < u.len) : (chs (L [])).count j = (ordC u L j).length := by
  obtain ⟨k, hk⟩ := kid_of hj
  rw [ordC_at hk, ord_length, c.ct [] u j (sub_nil u) hj]
  rfl
theorem kid_sz : ∀ {u k : Dt} {j : Nat}, u.kids[j]? = some k → k.size + 1 ≤ u.size
  | .x, _, _, h => by simp [Dt.kids] at h
  | .o, _, _, h => by simp [Dt.kids] at h
  | .c k r, k', 0, h => by
    have e : k = k' := by simpa [Dt.kids] using h
    subst e
    show k.size + 1 ≤ k.size + r.size + 1
    omega
  | .c k r, k', j + 1, h => by
    have := kid_sz (u := r) (k := k') (j := j) (by simpa [Dt.kids] using h)
    show k'.size + 1 ≤ k.size + r.size + 1
    omega
theorem ord_mem : ∀ (d : Nat) (u : Dt) (L : Lns), u.size ≤ d → Con u L → ∀ x ∈ ord u L, ∃ p w, sub u p = some w ∧ w.len = 0 ∧ x ∈ its (L p)
  | 0, u, L, hd, _, x, h => by cases u <;> simp [Dt.size] at hd
  | d + 1, u, L, hd, c, x, h => by
    by_cases hl : u.len = 0
    · rw [ord_leaf hl] at h
      exact ⟨[], u, sub_nil u, hl, h⟩
    · rw [ord_fork hl] at h
      obtain ⟨j, hj, hx⟩ := mrg_mem _ _ (c.enough hl) x h
      obtain ⟨k, hk⟩ := kid_of (c.chs_lt hl j hj)
      rw [ordC_at hk] at hx
      obtain ⟨p, w, h1, h2, h3⟩ := ord_mem d k (sh j L) (by have := kid_sz hk; omega) (c.kid hk) x hx
      exact ⟨j :: p, w, by rw [sub_kid hk]; exact h1, h2, h3⟩
/-- what of the order lies beneath q is the order of q -/
theorem ord_filter (P : Int → Bool) : ∀ (q : Ad) (u v : Dt) (L : Lns), sub u q = some v → Con u L → (∀ p w, sub u p = some w → w.len = 0 → ∀ x ∈ its (L p), P x = decide (q <+: p)) → (ord u L).filter P = ord v fun r => L (q ++ r)
  | [], u, v, L, hq, c, h => by
    rw [sub_nil] at hq
    obtain rfl := Option.some.inj hq
    refine List.filter_eq_self.mpr fun x hx => ?_
    obtain ⟨p, w, h1, h2, h3⟩ := ord_mem _ u L (Nat.le_refl _) c x hx
    rw [h p w h1 h2 x h3]
    exact decide_eq_true (List.nil_prefix ..)
  | j :: q, u, v, L, hq, c, h => by
    obtain ⟨k, hk, hq2⟩ := sub_len hq
    have hj := kid_lt hk
    have hl : u.len ≠ 0 := by omega
    have ih := ord_filter P q k v (sh j L) hq2 (c.kid hk) fun p w h1 h2 x hx => by
      rw [h (j :: p) w (by rw [sub_kid hk]; exact h1) h2 x hx]
      congr 1
      simp
    have hin : ∀ i, i < u.len → ∀ x ∈ ordC u L i, ∃ p, P x = decide ((j :: q) <+: (i :: p)) := fun i hi x hx => by
      obtain ⟨k', hk'⟩ := kid_of hi
      rw [ordC_at hk'] at hx
      obtain ⟨p, w, h1, h2, h3⟩ := ord_mem _ k' (sh i L) (Nat.le_refl _) (c.kid hk') x hx
      exact ⟨p, h (i :: p) w (by rw [sub_kid hk']; exact h1) h2 x h3⟩
    rw [ord_fork hl]
    have e : (mrg (chs (L [])) (ordC u L)).filter P = (ordC u L j).filter P := by
      have g := mrg_filter2 P (chs (L [])) (ordC u L) j (c.enough hl) (fun i hi e x hx => by
        obtain ⟨p, hp⟩ := hin i (c.chs_lt hl i hi) x hx
        rw [hp]
        refine decide_eq_false fun z => ?_
        rw [List.cons_prefix_cons] at z
        exact e z.1.symm) 
      rw [g, c.exact hj, List.take_length]
    rw [e, ordC_at hk, ih]
    rfl
/-! departures -/
structure Dep (u : Dt) (L : Lns) (n : Int) (p : Ad) (rs : List (List Int)) : Prop where
  lf : ∃ w, sub u p = some w ∧ w.len = 0
  hd : ∀ k j, p[k]? = some j → ∃ r t, L (p.take k) = (r, ((j : Nat) : Int)) :: t ∧ rs[k]? = some r
  la : ∃ r t, L p = (r, n) :: t ∧ rs[p.length]? = some r
  len : rs.length = p.length + 1
def cutL (p : Ad) (L : Lns) : Lns := fun q => if q <+: p then (L q).tail else L q
theorem cutL_nil (p : Ad) (L : Lns) : cutL p L [] = (L []).tail := if_pos (List.nil_prefix ..)
theorem sh_cut (j : Nat) (p : Ad) (L : Lns) : sh j (cutL (j :: p) L) = cutL p (sh j L) := by
  funext q
  unfold sh cutL
  by_cases h : q <+: p
  · rw [if_pos h, if_pos (by rw [List.cons_prefix_cons]; exact ⟨rfl, h⟩)]
  · rw [if_neg h, if_neg (by rw [List.cons_prefix_cons]; exact fun z => h z.2)]
theorem sh_cut_ne {i j : Nat} (h : i ≠ j) (p : Ad) (L : Lns) : sh i (cutL (j :: p) L) = sh i L := by
  funext q
  unfold sh cutL
  rw [if_neg (by rw [List.cons_prefix_cons]; exact fun z => h z.1)]
theorem Dep.kid {u k : Dt} {L : Lns} {n : Int} {j : Nat} {p : Ad} {r : List Int} {rs : List (List Int)} (d : Dep u L n (j :: p) (r :: rs)) (h : u.kids[j]? = some k) : Dep k (sh j L) n p rs := by
  obtain ⟨⟨w, h1, h2⟩, h3, ⟨r', t, h4, h5⟩, h6⟩ := d
  refine ⟨⟨w, by rw [← sub_kid h]; exact h1, h2⟩, fun i j' hj' => ?_, ⟨r', t, h4, by simpa using h5⟩, by simpa using h6⟩
  obtain ⟨r2, t2, e1, e2⟩ := h3 (i + 1) j' (by simpa using hj')
  exact ⟨r2, t2, by simpa [sh] using e1, by simpa using e2⟩
theorem dep_ord : ∀ (p : Ad) (u : Dt) (L : Lns) (n : Int) (rs : List (List Int)), Con u L → Dep u L n p rs → ord u L = n :: ord u (cutL p L)
  | [], u, L, n, rs, c, d => by
    obtain ⟨⟨w, h1, h2⟩, h3, ⟨r, t, h4, h5⟩, h6⟩ := d
    rw [sub_nil] at h1
    obtain rfl := Option.some.inj h1
    rw [ord_leaf h2, ord_leaf h2, cutL_nil, h4]
    rfl
  | j :: p, u, L, n, [], c, d => by
    have := d.len
    simp at this
  | j :: p, u, L, n, r :: rs, c, d => by
    obtain ⟨w, h1, h2⟩ := d.lf
    obtain ⟨k, hk, _⟩ := sub_len h1
    have hl : u.len ≠ 0 := by have := kid_lt hk; omega
    have ih := dep_ord p k (sh j L) n rs (c.kid hk) (d.kid hk)
    obtain ⟨r0, t, h4, _⟩ := d.hd 0 j rfl
    have h4' : L [] = (r0, ((j : Nat) : Int)) :: t := h4
    rw [ord_fork hl, ord_fork hl, cutL_nil, h4', List.tail_cons]
    have e0 : chs ((r0, ((j : Nat) : Int)) :: t) = j :: chs t := rfl
    rw [e0]
    show (ordC u L j).headD 0 :: mrg (chs t) (dropAt (ordC u L) j) = _
    rw [ordC_at hk, ih]
    refine congrArg (n :: ·) (mrg_congr _ _ _ fun i hi => ?_)
    have hi2 : i < u.len := c.chs_lt hl i (by rw [h4', e0]; exact List.mem_cons_of_mem _ hi)
    obtain ⟨k', hk'⟩ := kid_of hi2
    unfold dropAt
    by_cases e : i = j
    · subst e
      rw [if_pos rfl, ordC_at hk, ordC_at hk, ih, sh_cut]
      rfl
    · rw [if_neg e, ordC_at hk', ordC_at hk', sh_cut_ne e]
theorem dep_con {u : Dt} {L : Lns} {n : Int} {p : Ad} {rs : List (List Int)} (c : Con u L) (d : Dep u L n p rs) : Con u (cutL p L) := by
  refine ⟨fun q w hq hw e he => ?_, fun q w j hq hj => ?_⟩
  · unfold cutL at he
    by_cases h : q <+: p
    · rw [if_pos h] at he
      exact c.it q w hq hw e (List.mem_of_mem_tail he)
    · rw [if_neg h] at he
      exact c.it q w hq hw e he
  · have h0 := c.ct q w j hq hj
    obtain ⟨w', h1, h2⟩ := d.lf
    unfold cutL
    by_cases h : q <+: p
    · rw [if_pos h]
      obtain ⟨s, rfl⟩ := h
      cases s with
      | nil =>
        rw [List.append_nil] at h1
        rw [h1] at hq
        obtain rfl := Option.some.inj hq
        omega
      | cons i s =>
        obtain ⟨r, t, e1, _⟩ := d.hd q.length i (by simp)
        rw [List.take_left] at e1
        rw [e1] at h0 ⊢
        have e2 : chs ((r, ((i : Nat) : Int)) :: t) = i :: chs t := rfl
        rw [e2] at h0
        rw [List.tail_cons]
        by_cases e : i = j
        · subst e
          rw [List.count_cons_self] at h0
          rw [if_pos (by rw [List.prefix_append_right_inj]; exact ⟨s, rfl⟩), List.length_tail]
          omega
        · rw [List.count_cons_of_ne e] at h0
          rw [if_neg (by
            rw [List.prefix_append_right_inj, List.cons_prefix_cons]
            exact fun z => e z.1.symm)]
          exact h0
    · rw [if_neg h, if_neg (fun z => h ((List.prefix_append ..).trans z))]
      exact h0
theorem dep_ex : ∀ (d : Nat) (u : Dt) (L : Lns), u.size ≤ d → Con u L → L [] ≠ [] → ∃ n p rs, Dep u L n p rs
  | 0, u, L, hd, _, h => by cases u <;> simp [Dt.size] at hd
  | d + 1, u, L, hd, c, h => by
    cases e : L [] with
    | nil => exact absurd e h
    | cons z t =>
      obtain ⟨r, n⟩ := z
      by_cases hl : u.len = 0
      · exact ⟨n, [], [r], ⟨u, sub_nil u, hl⟩, fun k j hk => by simp at hk, ⟨r, t, e, rfl⟩, rfl⟩
      · obtain ⟨j, hj, ej⟩ := c.it [] u (sub_nil u) hl (r, n) (by rw [e]; exact List.mem_cons_self ..)
        obtain ⟨k, hk⟩ := kid_of hj
        have ej' : n = (j : Nat) := ej
        have hne : sh j L [] ≠ [] := fun z => by
          have := c.ct [] u j (sub_nil u) hj
          rw [e, ej', show L ([] ++ [j]) = [] from z] at this
          have e2 : chs ((r, ((j : Nat) : Int)) :: t) = j :: chs t := rfl
          rw [e2, List.count_cons_self] at this
          exact absurd this (by simp)
        obtain ⟨n', p, rs, D⟩ := dep_ex d k (sh j L) (by have := kid_sz hk; omega) (c.kid hk) hne
        obtain ⟨⟨w, h1, h2⟩, h3, ⟨r', t', h4, h5⟩, h6⟩ := D
        refine ⟨n', j :: p, r :: rs, ⟨w, by rw [sub_kid hk]; exact h1, h2⟩, fun i j' hj' => ?_, ⟨r', t', h4, by simpa using h5⟩, by simp [h6]⟩
        cases i with
        | zero =>
          have : j = j' := by simpa using hj'
          subst this
          exact ⟨r, t, by rw [← ej']; exact e, rfl⟩
        | succ i =>
          obtain ⟨r2, t2, e1, e2⟩ := h3 i j' (by simpa using hj')
          exact ⟨r2, t2, e1, by simpa using e2⟩
/-! pushes -/
def insE (l : List En) (e : En) : List En := l.takeWhile (fun x => !HT.lexLt e.1 x.1) ++ e :: l.dropWhile (fun x => !HT.lexLt e.1 x.1)
def itm (p : Ad) (n : Int) (k : Nat) : Int := match p[k]? with | some j => (j : Nat) | none => n
def pshL (p : Ad) (rs : List (List Int)) (n : Int) (L : Lns) : Lns := fun q => if q <+: p then insE (L q) (rs.getD q.length [], itm p n q.length) else L q
theorem insE_perm (l : List En) (e : En) : (insE l e).Perm (e :: l) := by
  unfold insE
  refine List.perm_middle.trans ?_
  rw [List.takeWhile_append_dropWhile]
theorem insE_end {l : List En} {e : En} (h : ∀ x ∈ l, HT.lexLt e.1 x.1 = false) : insE l e = l ++ [e] := by
  unfold insE
  have h1 : ∀ m : List En, (∀ x ∈ m, HT.lexLt e.1 x.1 = false) → m.takeWhile (fun x => !HT.lexLt e.1 x.1) = m ∧ m.dropWhile (fun x => !HT.lexLt e.1 x.1) = [] := by
    intro m
    induction m with
    | nil => exact fun _ => ⟨rfl, rfl⟩
    | cons y m ih =>
      intro hm
      have hy : (!HT.lexLt e.1 y.1) = true := by rw [hm y (List.mem_cons_self ..)]; rfl
      obtain ⟨a1, a2⟩ := ih fun z hz => hm z (List.mem_cons_of_mem _ hz)
      rw [List.takeWhile_cons, List.dropWhile_cons, if_pos hy, if_pos hy, a1, a2]
      exact ⟨rfl, rfl⟩
  rw [(h1 l h).1, (h1 l h).2]
theorem pshL_con {u w : Dt} {L : Lns} {p : Ad} {rs : List (List Int)} {n : Int} (c : Con u L) (h : sub u p = some w) (hw : w.len = 0) : Con u (pshL p rs n L) := by
  refine ⟨fun q w' hq hl e he => ?_, fun q w' j hq hj => ?_⟩
  · unfold pshL at he
    by_cases hp : q <+: p
    · rw [if_pos hp] at he
      rcases List.mem_cons.mp ((insE_perm _ _).mem_iff.mp he) with rfl | he
      · obtain ⟨s, rfl⟩ := hp
        cases s with
        | nil =>
          rw [List.append_nil] at h
          rw [h] at hq
          obtain rfl := Option.some.inj hq
          exact absurd hw hl
        | cons i s =>
          have e1 : itm (q ++ i :: s) n q.length = (i : Nat) := by
            unfold itm
            rw [List.getElem?_append_right (Nat.le_refl _), Nat.sub_self]
            rfl
          have h2 := (sub_app u q w' hq (i :: s)).1
          rw [h] at h2
          obtain ⟨k, hk, _⟩ := sub_len h2.symm
          exact ⟨i, kid_lt hk, e1⟩
      · exact c.it q w' hq hl e he
    · rw [if_neg hp] at he
      exact c.it q w' hq hl e he
  · have h0 := c.ct q w' j hq hj
    unfold pshL
    by_cases hp : q <+: p
    · rw [if_pos hp]
      have hc : (chs (insE (L q) (rs.getD q.length [], itm p n q.length))).count j = ((itm p n q.length).toNat :: chs (L q)).count j := (((insE_perm _ _).map _).count_eq j)
      rw [hc]
      obtain ⟨s, rfl⟩ := hp
      cases s with
      | nil =>
        rw [List.append_nil] at h
        rw [h] at hq
        obtain rfl := Option.some.inj hq
        omega
      | cons i s =>
        have e1 : itm (q ++ i :: s) n q.length = (i : Nat) := by
          unfold itm
          rw [List.getElem?_append_right (Nat.le_refl _), Nat.sub_self]
          rfl
        rw [e1, Int.toNat_natCast]
        by_cases e : i = j
        · subst e
          rw [List.count_cons_self, if_pos (by rw [List.prefix_append_right_inj]; exact ⟨s, rfl⟩), (insE_perm _ _).length_eq, List.length_cons, h0]
        · rw [List.count_cons_of_ne e, if_neg (by
            rw [List.prefix_append_right_inj, List.cons_prefix_cons]
            exact fun z => e z.1.symm)]
          exact h0
    · rw [if_neg hp, if_neg (fun z => hp ((List.prefix_append ..).trans z))]
      exact h0
theorem sh_psh (j : Nat) (p : Ad) (r : List Int) (rs : List (List Int)) (n : Int) (L : Lns) : sh j (pshL (j :: p) (r :: rs) n L) = pshL p rs n (sh j L) := by
  funext q
  unfold sh pshL
  by_cases h : q <+: p
  · rw [if_pos h, if_pos (by rw [List.cons_prefix_cons]; exact ⟨rfl, h⟩)]
    rfl
  · rw [if_neg h, if_neg (by rw [List.cons_prefix_cons]; exact fun z => h z.2)]
theorem sh_psh_ne {i j : Nat} (h : i ≠ j) (p : Ad) (rs : List (List Int)) (n : Int) (L : Lns) : sh i (pshL (j :: p) rs n L) = sh i L := by
  funext q
  unfold sh pshL
  rw [if_neg (by rw [List.cons_prefix_cons]; exact fun z => h z.1)]
/-- a push behind all others comes last -/
theorem ord_last : ∀ (p : Ad) (u w : Dt) (L : Lns) (rs : List (List Int)) (n : Int), Con u L → sub u p = some w → w.len = 0 → rs.length = p.length + 1 → (∀ q, q <+: p → ∀ x ∈ L q, HT.lexLt (rs.getD q.length []) x.1 = false) → ord u (pshL p rs n L) = ord u L ++ [n]
  | _, u, w, L, [], n, c, h, hw, hr, hx => by simp at hr
  | [], u, w, L, r :: rs, n, c, h, hw, hr, hx => by
    rw [sub_nil] at h
    obtain rfl := Option.some.inj h
    rw [ord_leaf hw, ord_leaf hw]
    unfold pshL
    rw [if_pos (List.nil_prefix ..), insE_end (hx [] (List.nil_prefix ..))]
    show its (L [] ++ [(r, n)]) = _
    unfold its
    rw [List.map_append]
    rfl
  | j :: p, u, w, L, r :: rs, n, c, h, hw, hr, hx => by
    obtain ⟨k, hk, hk2⟩ := sub_len h
    have hj := kid_lt hk
    have hl : u.len ≠ 0 := by omega
    have ih := ord_last p k w (sh j L) rs n (c.kid hk) hk2 hw (by simpa using hr) fun q hq x hx2 => by
      have := hx (j :: q) (by rw [List.cons_prefix_cons]; exact ⟨rfl, hq⟩) x hx2
      simpa using this
    rw [ord_fork hl, ord_fork hl]
    have e1 : pshL (j :: p) (r :: rs) n L [] = L [] ++ [(r, ((j : Nat) : Int))] := by
      unfold pshL
      rw [if_pos (List.nil_prefix ..), insE_end (hx [] (List.nil_prefix ..))]
      rfl
    have e2 : chs (L [] ++ [(r, ((j : Nat) : Int))]) = chs (L []) ++ [j] := by
      unfold chs
      rw [List.map_append]
      rfl
    rw [e1, e2, ← mrg_snoc n (chs (L [])) (ordC u L) j (c.enough hl) (c.exact hj)]
    refine mrg_congr _ _ _ fun i hi => ?_
    have hi2 : i < u.len := by
      rcases List.mem_append.mp hi with hi | hi
      · exact c.chs_lt hl i hi
      · rw [List.mem_singleton.mp hi]
        exact hj
    obtain ⟨k', hk'⟩ := kid_of hi2
    by_cases e : i = j
    · subst e
      rw [if_pos rfl, ordC_at hk, ordC_at hk, sh_psh, ih]
    · rw [if_neg e, ordC_at hk', ordC_at hk', sh_psh_ne e]
end K27
set_option Elab.async false
set_option linter.all false
set_option maxRecDepth 100000
set_option maxHeartbeats 4000000
namespace K27
open PySem PySem.Spec PyProof.Rows L2 Dt
/-! ### the heap but for some mutable objects -/
def offS (S : List Addr) (H : Hp) : Hp := fun b => if b ∈ S then none else H b
theorem offS_in {S : List Addr} {H : Hp} {b : Addr} (h : b ∈ S) : offS S H b = none := if_pos h
theorem offS_ne {S : List Addr} {H : Hp} {b : Addr} (h : b ∉ S) : offS S H b = H b := if_neg h
theorem offS_some {S : List Addr} {H : Hp} {b : Addr} {u : HO} (h : offS S H b = some u) : b ∉ S ∧ H b = some u := by
  by_cases z : b ∈ S
  · rw [offS_in z] at h
    exact nomatch h
  · rw [offS_ne z] at h
    exact ⟨z, h⟩
theorem offS_same {S : List Addr} {H : Hp} : Same (offS S H) H := fun b u h => (offS_some h).2
/-- only what lies at S may have changed -/
structure GoS (S : List Addr) (H H' : Hp) : Prop where
  s : Same (offS S H) (offS S H')
  k : ∀ y, H y ≠ none → H' y ≠ none
theorem GoS.refl {S : List Addr} {H : Hp} : GoS S H H := ⟨fun _ _ h => h, fun _ h => h⟩
theorem GoS.trans {S : List Addr} {H H1 H2 : Hp} (a : GoS S H H1) (b : GoS S H1 H2) : GoS S H H2 := ⟨fun y u h => b.s y u (a.s y u h), fun y h => b.k y (a.k y h)⟩
theorem same_al {H H' : Hp} (e : Same H H') {y : Addr} (h : H y ≠ none) : H' y ≠ none := by
  cases z : H y with
  | none => exact absurd z h
  | some u =>
    rw [e y u z]
    exact fun q => nomatch q
theorem GoS.of {S : List Addr} {H H' : Hp} (e : Same H H') : GoS S H H' := ⟨fun y u h => by
  obtain ⟨h1, h2⟩ := offS_some h
  rw [offS_ne h1]
  exact e y u h2, fun y h => same_al e h⟩
theorem GoS.at {S : List Addr} {H H' : Hp} {y : Addr} {u : HO} (g : GoS S H H') (h : H y = some u) (n : y ∉ S) : H' y = some u := by
  have := g.s y u (by rw [offS_ne n]; exact h)
  rw [offS_ne n] at this
  exact this
theorem GoS.wide {S S' : List Addr} {H H' : Hp} (g : GoS S H H') (h : ∀ y ∈ S, y ∈ S') : GoS S' H H' := ⟨fun y u e => by
  obtain ⟨h1, h2⟩ := offS_some e
  rw [offS_ne h1]
  exact g.at h2 fun z => h1 (h y z), g.k⟩
theorem GoS.upd {S : List Addr} {H H' : Hp} {p : Addr} {v : HO} (g : GoS S H H') (h : p ∈ S) : GoS S H (L2.upd H' p v) := ⟨fun y u e => by
  obtain ⟨h1, h2⟩ := offS_some (g.s y u e)
  rw [offS_ne h1, upd_ne (fun z => h1 (by rw [z]; exact h))]
  exact h2, fun y hy => by
  by_cases z : y = p
  · rw [z, upd_same]
    exact fun q => nomatch q
  · rw [upd_ne z]
    exact g.k y hy⟩
theorem GoS.new {S : List Addr} {H H' : Hp} {p : Addr} {v : HO} (g : GoS S H H') (h : H' p = none) : GoS S H (L2.upd H' p v) := g.trans (GoS.of (same_new h))
theorem GoS.free {S : List Addr} {H H' : Hp} {p : Addr} (g : GoS S H H') (h : H' p = none) : H p = none := by
  cases e : H p with
  | none => rfl
  | some u => exact absurd h (g.k p (by rw [e]; exact fun q => nomatch q))
/-- mutable objects that are made newly -/
theorem offS_grow {S N : List Addr} {H0 H : Hp} (e : Same H0 H) (h : ∀ y ∈ N, H0 y = none) : Same (offS S H0) (offS (N ++ S) H) := fun y u g => by
  obtain ⟨h1, h2⟩ := offS_some g
  rw [offS_ne]
  · exact e y u h2
  · intro z
    rcases List.mem_append.mp z with z | z
    · rw [h y z] at h2
      exact nomatch h2
    · exact h1 z
/-! ### entries as data -/
def enD (e : En) : PyData := .tuple [intsD e.1, .int e.2]
theorem rank_eq {d : PyData} (h : rankOf d = true) : ∃ ns, d = intsD ns := by
  cases d with
  | tuple ds =>
    have h' : (decide (ds.length ≤ 8) && ds.all partB) = true := h
    rw [Bool.and_eq_true] at h'
    have g : ∀ l : List PyData, l.all partB = true → ∃ ns : List Int, l = ns.map PyData.int := by
      intro l
      induction l with
      | nil => exact fun _ => ⟨[], rfl⟩
      | cons d l ih =>
        intro hl
        rw [List.all_cons, Bool.and_eq_true] at hl
        obtain ⟨ns, rfl⟩ := ih hl.2
        cases d with
        | int i => exact ⟨i :: ns, rfl⟩
        | none => exact nomatch hl.1
        | bool _ => exact nomatch hl.1
        | str _ => exact nomatch hl.1
        | list _ => exact nomatch hl.1
        | tuple _ => exact nomatch hl.1
        | dict _ => exact nomatch hl.1
    obtain ⟨ns, rfl⟩ := g ds h'.2
    exact ⟨ns, rfl⟩
  | _ => exact nomatch h
theorem rkInts_ints (ns : List Int) : rkInts (intsD ns) = ns := by
  show (ns.map PyData.int).filterMap numOf = ns
  induction ns with
  | nil => rfl
  | cons i ns ih =>
    show i :: (ns.map PyData.int).filterMap numOf = i :: ns
    rw [ih]
theorem rksOf_en (l : List En) : rksOf (l.map enD) = l.map (·.1) := by
  unfold rksOf
  rw [List.map_map]
  refine List.map_congr_left fun e _ => ?_
  show rkInts (intsD e.1) = e.1
  exact rkInts_ints e.1
def RkOK (l : List En) : Prop := ∀ e ∈ l, rankOf (intsD e.1) = true
def Asc1 (l : List En) : Prop := (l.map (·.1)).Pairwise fun p q => HT.lexLt q p = false
theorem line_en {l : List En} (h : RkOK l) (g : Asc1 l) : lineOf (.tuple (l.map enD)) = true := by
  refine line_of_facts _ [] (fun d hd => ?_) ?_ fun r _ => lex_nil r
  · obtain ⟨e, he, rfl⟩ := List.mem_map.mp hd
    exact ⟨_, _, rfl, h e he⟩
  · rw [rksOf_en]
    exact g
theorem take_insE {l : List En} {e : En} (g : Asc1 l) {p : Nat} (h : PlaceIs (l.map (·.1)) e.1 p) : insE l e = l.take p ++ e :: l.drop p := by
  induction l generalizing p with
  | nil =>
    have := h.le
    obtain rfl : p = 0 := by simpa using this
    rfl
  | cons y l ih =>
    unfold Asc1 at g
    rw [List.map_cons] at g h
    obtain ⟨g1, g2⟩ := List.pairwise_cons.mp g
    unfold insE
    cases p with
    | zero =>
      have hy := h.hi 0 y.1 (Nat.le_refl _) rfl
      have hn : (!HT.lexLt e.1 y.1) = false := by rw [hy]; rfl
      rw [List.takeWhile_cons, List.dropWhile_cons, if_neg (by rw [hn]; decide), if_neg (by rw [hn]; decide)]
      rfl
    | succ p =>
      have hy := h.lo 0 y.1 (Nat.zero_lt_succ _) rfl
      have hn : (!HT.lexLt e.1 y.1) = true := by rw [hy]; rfl
      have h2 : PlaceIs (l.map (·.1)) e.1 p := ⟨by have := h.le; simpa using this, fun i s hi hs => h.lo (i + 1) s (by omega) (by simpa using hs), fun i s hi hs => h.hi (i + 1) s (by omega) (by simpa using hs)⟩
      have := ih g2 h2
      unfold insE at this
      rw [List.takeWhile_cons, List.dropWhile_cons, if_pos hn, if_pos hn, List.cons_append, this]
      rfl
theorem insE_rk {l : List En} {e : En} (h : RkOK l) (he : rankOf (intsD e.1) = true) : RkOK (insE l e) := fun y hy => by
  rcases List.mem_cons.mp ((insE_perm l e).mem_iff.mp hy) with rfl | hy
  · exact he
  · exact h y hy
theorem insE_asc {l : List En} {e : En} (g : Asc1 l) : Asc1 (insE l e) := by
  induction l with
  | nil => exact List.pairwise_singleton ..
  | cons y l ih =>
    unfold Asc1 at g ih
    rw [List.map_cons] at g
    obtain ⟨g1, g2⟩ := List.pairwise_cons.mp g
    have e1 : insE (y :: l) e = if HT.lexLt e.1 y.1 = true then e :: y :: l else y :: insE l e := by
      unfold insE
      rw [List.takeWhile_cons, List.dropWhile_cons]
      cases hc : HT.lexLt e.1 y.1 with
      | true => rfl
      | false => rfl
    rw [e1]
    unfold Asc1
    cases hc : HT.lexLt e.1 y.1 with
    | true =>
      rw [if_pos rfl, List.map_cons, List.map_cons]
      refine List.pairwise_cons.mpr ⟨fun s hs => ?_, List.pairwise_cons.mpr ⟨g1, g2⟩⟩
      rcases List.mem_cons.mp hs with rfl | hs
      · exact NtL.lex_asym _ _ hc
      · cases hq : HT.lexLt s e.1 with
        | false => rfl
        | true =>
          have h3 := g1 s hs
          cases hz : HT.lexLt s y.1 with
          | true => rw [hz] at h3; exact nomatch h3
          | false =>
            have z1 : HT.lexLt e.1 y.1 = false := by
              have z2 := NtL.lex_asym _ _ hq
              exact NtL.lex_tr y.1 s e.1 h3 z2
            rw [hc] at z1
            exact nomatch z1
    | false =>
      rw [if_neg (by decide), List.map_cons]
      refine List.pairwise_cons.mpr ⟨fun s hs => ?_, ih g2⟩
      obtain ⟨z, hz, rfl⟩ := List.mem_map.mp hs
      rcases List.mem_cons.mp ((insE_perm l e).mem_iff.mp hz) with rfl | hz
      · exact hc
      · exact g1 _ (List.mem_map_of_mem hz)
theorem lex_refl0 : ∀ l : List Int, HT.lexLt l l = false
  | [] => rfl
  | i :: l => by
    rw [HT.lexLt_cons, if_pos rfl]
    exact lex_refl0 l
theorem dps_cut {K : PySem.W.Frag} {H : Hp} : ∀ {xs : List V} {ds : List PyData} (n : Nat), DpAll K H xs ds → DpAll K H (xs.take n) (ds.take n) ∧ DpAll K H (xs.drop n) (ds.drop n)
  | _, _, 0, h => ⟨.nil, h⟩
  | _, _, _ + 1, .nil => ⟨.nil, .nil⟩
  | _, _, n + 1, .cons h t => ⟨.cons h (dps_cut n t).1, (dps_cut n t).2⟩
theorem dps_app {K : PySem.W.Frag} {H : Hp} : ∀ {xs ys : List V} {ds es : List PyData}, DpAll K H xs ds → DpAll K H ys es → DpAll K H (xs ++ ys) (ds ++ es)
  | _, _, _, _, .nil, b => b
  | _, _, _, _, .cons h t, b => .cons h (dps_app t b)
/-- an entry more -/
theorem dps_ins {K : PySem.W.Frag} {H : Hp} {xs : List V} {l : List En} {v : V} {e : En} {p : Nat} (h : DpAll K H xs (l.map enD)) (hv : Dp K H v (enD e)) (he : insE l e = l.take p ++ e :: l.drop p) : DpAll K H (xs.take p ++ [v] ++ xs.drop p) ((insE l e).map enD) := by
  rw [he, List.map_append, List.map_cons, List.map_take, List.map_drop, List.append_assoc]
  exact dps_app (dps_cut p h).1 (.cons hv (dps_cut p h).2)
/-! ### a standing -/
structure StE (K : PySem.W.Frag) (C CS : Addr) (S : List Addr) (H : Hp) (a ta la sd : Addr) (Ls : List Addr) (T : Dt) (L : Lns) (kv : List (Key × V)) : Prop where
  sub : ∀ y ∈ sd :: Ls, y ∈ S
  al : ∀ y ∈ S, H y ≠ none
  nd : (sd :: Ls).Nodup
  ob : ∃ dx, offS S H a = some (.ins CS dx (stS ta la sd))
  tr : Tree K (offS S H) C ta T
  ln : offS S H la = some (.lst (Ls.map V.ref))
  len : Ls.length = T.nodes
  li : ∀ q ∈ ad T, ∃ l xs, Ls[T.idx q]? = some l ∧ H l = some (.lst xs) ∧ DpAll K (offS S H) xs ((L q).map enD)
  se : H sd = some (.dK kv)
  rk : ∀ q, RkOK (L q)
  pw : ∀ q, Asc1 (L q)
section
variable {K : PySem.W.Frag} {C CS : Addr} {S : List Addr} {H H' : Hp} {a ta la sd : Addr} {Ls : List Addr} {T : Dt} {L : Lns} {kv : List (Key × V)}
theorem StE.obj (s : StE K C CS S H a ta la sd Ls T L kv) : ∃ dx, H a = some (.ins CS dx (stS ta la sd)) := by
  obtain ⟨dx, h⟩ := s.ob
  exact ⟨dx, (offS_some h).2⟩
theorem StE.tree (s : StE K C CS S H a ta la sd Ls T L kv) : Tree K H C ta T := s.tr.same offS_same
theorem StE.lst (s : StE K C CS S H a ta la sd Ls T L kv) : H la = some (.lst (Ls.map V.ref)) := (offS_some s.ln).2
theorem StE.keep {M : List Addr} (s : StE K C CS S H a ta la sd Ls T L kv) (g : GoS M H H') (h : ∀ y ∈ M, y ∈ S) (n : ∀ y ∈ M, y ∉ sd :: Ls) : StE K C CS S H' a ta la sd Ls T L kv := by
  have gs : Same (offS S H) (offS S H') := (g.wide h).s
  obtain ⟨dx, ob⟩ := s.ob
  refine ⟨s.sub, fun y hy => g.k y (s.al y hy), s.nd, ⟨dx, gs _ _ ob⟩, s.tr.same gs, gs _ _ s.ln, s.len, fun q hq => ?_, g.at s.se fun z => n sd z (List.mem_cons_self ..), s.rk, s.pw⟩
  obtain ⟨l, xs, h1, h2, h3⟩ := s.li q hq
  exact ⟨l, xs, h1, g.at h2 fun z => n l z (List.mem_cons_of_mem _ (List.mem_of_getElem? h1)), dps_same gs h3⟩
theorem StE.same (s : StE K C CS S H a ta la sd Ls T L kv) (e : Same H H') : StE K C CS S H' a ta la sd Ls T L kv :=
  s.keep (M := []) (GoS.of e) (fun y h => by simp at h) fun y h => by simp at h
theorem StE.grow {N : List Addr} {H0 : Hp} (s : StE K C CS S H0 a ta la sd Ls T L kv) (e : Same H0 H) (h : ∀ y ∈ N, H0 y = none) (h2 : ∀ y ∈ N, H y ≠ none) : StE K C CS (N ++ S) H a ta la sd Ls T L kv := by
  have gs := offS_grow (S := S) e h
  obtain ⟨dx, ob⟩ := s.ob
  refine ⟨fun y hy => List.mem_append_right _ (s.sub y hy), fun y hy => (List.mem_append.mp hy).elim (h2 y) fun z => same_al e (s.al y z), s.nd, ⟨dx, gs _ _ ob⟩, s.tr.same gs, gs _ _ s.ln, s.len, fun q hq => ?_, e _ _ s.se, s.rk, s.pw⟩
  obtain ⟨l, xs, h1, h2, h3⟩ := s.li q hq
  exact ⟨l, xs, h1, e _ _ h2, dps_same gs h3⟩
end
end K27
set_option Elab.async false
set_option linter.all false
set_option maxRecDepth 100000
set_option maxHeartbeats 4000000
namespace K27
open PySem PySem.Spec PyProof.Rows L2 Dt
theorem cut_drop (xs : List V) (k : Nat) : cutV xs (some (k : Int)) none = xs.drop k := by
  unfold cutV
  rw [HT.sIx_none, HT.sIx_nat]
  by_cases h : k ≤ xs.length
  · rw [Nat.min_eq_left h]
    exact List.take_of_length_le (by rw [List.length_drop]; omega)
  · rw [Nat.min_eq_right (by omega), List.drop_of_length_le (Nat.le_refl _), List.drop_of_length_le (by omega)]
    simp
theorem rSlA_all {K : PySem.W.Frag} {H : Hp} {a : Addr} {xs : List V} {lo hi : Option Int} {Q : VK} (ha : SqT K H a xs) (h : ∀ tp H2, Same H H2 → SqT K H2 tp (cutV xs lo hi) → Q (.ref tp) H2) : rSlA K (.ref a) lo hi H Q := by
  refine ⟨a, xs, rfl, ha, fun e => ?_, fun e p hp => h p _ (same_new hp) (SqT.of upd_same)⟩
  refine h a H (fun _ _ z => z) ?_
  have : cutV xs lo hi = xs := by
    unfold cutV
    rw [e.1, e.2, List.drop_zero, Nat.sub_zero, List.take_length]
  rw [this]
  exact ha
/-! ### Standing.push -/
def sidesV (p : Ad) (n : Int) (m : Nat) : List V := (List.range m).map fun k => V.int (itm p n k)
/-- the items that a push puts along the way -/
def tItemsS (K : PySem.W.Frag) (C CS : Addr) : TS := fun D σ H => ∃ a dx ta la sd n pt T p o2 o3 o5 o6 o7 o8 o9, σ = [some (.ref a), some (.int n), o2, o3, some (.ref pt), o5, o6, o7, o8, o9] ∧ H a = some (.ins CS dx (stS ta la sd)) ∧ Tree K H C ta T ∧ p ∈ lv T ∧ T.ht < 20 ∧ SqT K H pt (pth T p (p.length + 1)) ∧
  ∀ H' l, Same H H' → H l = none → H' l = some (.lst (sidesV p n (p.length + 1))) → D.nx [some (.ref a), some (.int n), o2, o3, some (.ref pt), o5, some (.ref l), o7, o8, o9] H'
theorem pe_fldK {X : Cx} {K : PySem.W.Frag} {e : Expr} {f : Str} {pos : Pos} {ta : TE} (hK : X.K = K) (h : PE X e ta) (g : attributeBase e f X.env (eval e X.env) = eval e X.env) : PE X (e.Attribute f pos) (tFld K ta f) := by
  subst hK
  exact pe_fld h g
theorem ix_listK {X : Cx} {K : PySem.W.Frag} (hK : X.K = K) : IxR X (rIxL K) := by
  subst hK
  exact ix_list
theorem pth_at {T : Dt} {p : Ad} {n k : Nat} (h : k < n) : (pth T p n)[k]? = some (V.int (T.idx (p.take k) : Nat)) := by
  unfold pth
  rw [List.getElem?_map, List.getElem?_range h]
  rfl
theorem pth_len (T : Dt) (p : Ad) (n : Nat) : (pth T p n).length = n := by
  unfold pth
  rw [List.length_map, List.length_range]
theorem sideI_take {p : Ad} {k : Nat} (h : k < p.length) (n : Int) : sideI (p.take (k + 1)) = itm p n k := by
  unfold sideI itm
  rw [List.take_succ_eq_append_getElem h, List.getLast?_concat, List.getElem?_eq_getElem h]
theorem itm_end (p : Ad) (n : Int) : itm p n p.length = n := by
  unfold itm
  rw [List.getElem?_eq_none (Nat.le_refl _)]
theorem lv_ad {T : Dt} {p : Ad} (h : p ∈ lv T) : p ∈ ad T := (List.mem_filter.mp h).1
theorem lv_lf {T : Dt} {p : Ad} (h : p ∈ lv T) : ∃ w, sub T p = some w ∧ w.len = 0 := by
  obtain ⟨h1, h2⟩ := List.mem_filter.mp h
  obtain ⟨w, hw⟩ := ad_sub h1
  refine ⟨w, hw, ?_⟩
  rw [isLf_o hw] at h2
  simpa using h2
section
variable {P : Program} {w : World} {K : PySem.W.Frag} {mg : Str → Option Value} {base : Heap} {C CS U fG : Addr}
end
end K27
set_option Elab.async false
set_option linter.all false
set_option maxRecDepth 100000
set_option maxHeartbeats 4000000
namespace K27
open PySem PySem.Spec PyProof.Rows L2 Dt
theorem sidesV_at {p : Ad} {n : Int} {m k : Nat} (h : k < m) : (sidesV p n m)[k]? = some (V.int (itm p n k)) := by
  unfold sidesV
  rw [List.getElem?_map, List.getElem?_range h]
  rfl
theorem sidesV_len (p : Ad) (n : Int) (m : Nat) : (sidesV p n m).length = m := by
  unfold sidesV
  rw [List.length_map, List.length_range]
theorem sidesV_succ (p : Ad) (n : Int) (m : Nat) : sidesV p n (m + 1) = sidesV p n m ++ [.int (itm p n m)] := by
  unfold sidesV
  rw [List.range_succ, List.map_append]
  rfl
/-- the lines when the first k entries are put -/
def pshK (p : Ad) (rs : List (List Int)) (n : Int) (L : Lns) (k : Nat) : Lns := fun q => if q <+: p ∧ q.length < k then insE (L q) (rs.getD q.length [], itm p n q.length) else L q
theorem pshK_zero (p : Ad) (rs : List (List Int)) (n : Int) (L : Lns) : pshK p rs n L 0 = L := by
  funext q
  unfold pshK
  rw [if_neg (fun z => absurd z.2 (Nat.not_lt_zero _))]
theorem pshK_full (p : Ad) (rs : List (List Int)) (n : Int) (L : Lns) : pshK p rs n L (p.length + 1) = pshL p rs n L := by
  funext q
  unfold pshK pshL
  by_cases h : q <+: p
  · rw [if_pos ⟨h, by have := h.length_le; omega⟩, if_pos h]
  · rw [if_neg (fun z => h z.1), if_neg h]
theorem pshK_succ (p : Ad) (rs : List (List Int)) (n : Int) (L : Lns) (k : Nat) (hk : k ≤ p.length) : pshK p rs n L (k + 1) = fun q => if q = p.take k then insE (L (p.take k)) (rs.getD k [], itm p n k) else pshK p rs n L k q := by
  funext q
  have hl : (p.take k).length = k := by rw [List.length_take]; omega
  by_cases e : q = p.take k
  · rw [if_pos e, e]
    unfold pshK
    rw [if_pos ⟨List.take_prefix .., by omega⟩, hl]
  · rw [if_neg e]
    unfold pshK
    by_cases h : q <+: p ∧ q.length < k
    · rw [if_pos h, if_pos ⟨h.1, by omega⟩]
    · rw [if_neg h, if_neg (fun z => ?_)]
      have : q.length = k := by
        have h1 : ¬ q.length < k := fun y => h ⟨z.1, y⟩
        omega
      refine e ?_
      rw [← this]
      exact (List.prefix_iff_eq_take.mp z.1)
theorem pshK_at (p : Ad) (rs : List (List Int)) (n : Int) (L : Lns) (k : Nat) (hk : k ≤ p.length) : pshK p rs n L k (p.take k) = L (p.take k) := by
  have hl : (p.take k).length = k := by rw [List.length_take]; omega
  unfold pshK
  rw [if_neg (fun z => by omega)]
/-- one line of a standing is another one -/
theorem StE.setL {K : PySem.W.Frag} {C CS : Addr} {S : List Addr} {H : Hp} {a ta la sd : Addr} {Ls : List Addr} {T : Dt} {L : Lns} {kv : List (Key × V)} (s : StE K C CS S H a ta la sd Ls T L kv) {q : Ad} {l : Addr} {xs : List V} {es : List En} (hq : q ∈ ad T) (hl : Ls[T.idx q]? = some l) (hx : DpAll K (offS S H) xs (es.map enD)) (h1 : RkOK es) (h2 : Asc1 es) :
    StE K C CS S (upd H l (.lst xs)) a ta la sd Ls T (fun r => if r = q then es else L r) kv := by
  have hm : l ∈ S := s.sub l (List.mem_cons_of_mem _ (List.mem_of_getElem? hl))
  have gG : GoS S H (upd H l (.lst xs)) := (GoS.refl (S := S)).upd hm
  have gs := gG.s
  obtain ⟨dx, ob⟩ := s.ob
  have hn := List.nodup_cons.mp s.nd
  have nsd : sd ≠ l := fun e => hn.1 (by rw [e]; exact List.mem_of_getElem? hl)
  refine ⟨s.sub, fun y hy => gG.k y (s.al y hy), s.nd, ⟨dx, gs _ _ ob⟩, s.tr.same gs, gs _ _ s.ln, s.len, fun r hr => ?_, by rw [upd_ne nsd]; exact s.se, fun r => ?_, fun r => ?_⟩
  · by_cases e : r = q
    · rw [e, if_pos rfl]
      exact ⟨l, xs, hl, upd_same, dps_same gs hx⟩
    · rw [if_neg e]
      obtain ⟨l', xs', g1, g2, g3⟩ := s.li r hr
      refine ⟨l', xs', g1, ?_, dps_same gs g3⟩
      rw [upd_ne]
      · exact g2
      · intro z
        rw [z] at g1
        obtain ⟨b1, c1⟩ := List.getElem?_eq_some_iff.mp g1
        obtain ⟨b2, c2⟩ := List.getElem?_eq_some_iff.mp hl
        have := (List.getElem_inj hn.2).mp (c1.trans c2.symm)
        exact e (idx_inj hr hq this)
  · split
    · exact h1
    · exact s.rk r
  · split
    · exact h2
    · exact s.pw r
/-- the packets' queues are others -/
theorem StE.setS {K : PySem.W.Frag} {C CS : Addr} {S : List Addr} {H : Hp} {a ta la sd : Addr} {Ls : List Addr} {T : Dt} {L : Lns} {kv : List (Key × V)} (s : StE K C CS S H a ta la sd Ls T L kv) (kv' : List (Key × V)) : StE K C CS S (upd H sd (.dK kv')) a ta la sd Ls T L kv' := by
  have hm : sd ∈ S := s.sub sd (List.mem_cons_self ..)
  have gG : GoS S H (upd H sd (.dK kv')) := (GoS.refl (S := S)).upd hm
  have gs := gG.s
  obtain ⟨dx, ob⟩ := s.ob
  have hn := List.nodup_cons.mp s.nd
  refine ⟨s.sub, fun y hy => gG.k y (s.al y hy), s.nd, ⟨dx, gs _ _ ob⟩, s.tr.same gs, gs _ _ s.ln, s.len, fun r hr => ?_, upd_same, s.rk, s.pw⟩
  obtain ⟨l', xs', g1, g2, g3⟩ := s.li r hr
  refine ⟨l', xs', g1, ?_, dps_same gs g3⟩
  rw [upd_ne]
  · exact g2
  · intro z
    exact hn.1 (by rw [← z]; exact List.mem_of_getElem? g1)
theorem ht_sub : ∀ (p : Ad) (T u : Dt), sub T p = some u → p.length ≤ T.ht
  | [], _, _, _ => Nat.zero_le _
  | j :: p, T, u, h => by
    obtain ⟨k, hk, h2⟩ := sub_len h
    have h3 := ht_sub p k u h2
    have h4 := ht_kid T j k hk
    show p.length + 1 ≤ T.ht
    omega
theorem ht_path {T : Dt} {p : Ad} (h : p ∈ lv T) : p.length ≤ T.ht := by
  obtain ⟨w, h1, _⟩ := lv_lf h
  exact ht_sub p T w h1
def spPush (K : PySem.W.Frag) (C CS U : Addr) : Sp := fun vs H Q E => ∃ (a ta la sd : Addr) (S Ls : List Addr) (T : Dt) (L : Lns) (kv : List (Key × V)) (x y z : V) (o oq : Option Int) (d : PyData), vs = [.ref a, x, y, z] ∧ StE K C CS S H a ta la sd Ls T L kv ∧ T.ht < 20 ∧ NumV K H x o ∧ NumV K H y oq ∧ Dp K (offS S H) z d ∧ (∀ ds, d = .tuple ds → ds.length ≤ 1000000) ∧ (∀ q, (L q).length ≤ 100000) ∧ kv.length ≤ 100000 ∧
  (absentB kv o = false → ∀ H', Same H H' → Out U "number" H' E) ∧
  (absentB kv o = true → belowB (T.lf : Nat) oq = false → ∀ H', Same H H' → Out U "queue" H' E) ∧
  (absentB kv o = true → ∀ (i : Nat) p, oq = some (i : Nat) → (lv T)[i]? = some p → fitOf (p.length + 1) d = false → ∀ H', Same H H' → Out U "ranks" H' E) ∧
  (absentB kv o = true → ∀ (n : Int) (i : Nat) p rs, o = some n → oq = some (i : Nat) → (lv T)[i]? = some p → d = .tuple (rs.map intsD) → rs.length = p.length + 1 → (∀ r ∈ rs, rankOf (intsD r) = true) → ∀ H', GoS (sd :: Ls) H H' → StE K C CS S H' a ta la sd Ls T (pshL p rs n L) (putK kv (Sum.inl n : Key) (.int (i : Nat))) → Q .non H')
/-- ranks that fit -/
theorem fit_ranks {m : Nat} {d : PyData} (h : fitOf m d = true) : ∃ rs : List (List Int), d = .tuple (rs.map intsD) ∧ rs.length = m ∧ ∀ r ∈ rs, rankOf (intsD r) = true := by
  cases d with
  | tuple ds =>
    have h' : (decide (ds.length = m) && ds.all rankOf) = true := h
    rw [Bool.and_eq_true] at h'
    have g : ∀ l : List PyData, l.all rankOf = true → ∃ rs : List (List Int), l = rs.map intsD ∧ ∀ r ∈ rs, rankOf (intsD r) = true := by
      intro l
      induction l with
      | nil => exact fun _ => ⟨[], rfl, fun r hr => nomatch hr⟩
      | cons e l ih =>
        intro hl
        rw [List.all_cons, Bool.and_eq_true] at hl
        obtain ⟨rs, rfl, hr⟩ := ih hl.2
        obtain ⟨ns, rfl⟩ := rank_eq hl.1
        refine ⟨ns :: rs, rfl, fun r hr2 => ?_⟩
        rcases List.mem_cons.mp hr2 with rfl | hr2
        · exact hl.1
        · exact hr r hr2
    obtain ⟨rs, rfl, hr⟩ := g ds h'.2
    exact ⟨rs, rfl, by have := of_decide_eq_true h'.1; simpa using this, hr⟩
  | _ => exact nomatch h
/-- a rank in memory -/
theorem dp_ranks {K : PySem.W.Frag} {H : Hp} {vs : List V} {rs : List (List Int)} (h : DpAll K H vs (rs.map intsD)) {k : Nat} {v : V} (hv : vs[k]? = some v) : ∃ r, rs[k]? = some r ∧ Dp K H v (intsD r) := by
  obtain ⟨d, h1, h2⟩ := dps_at h hv
  rw [List.getElem?_map] at h1
  obtain ⟨r, h3, rfl⟩ := Option.map_eq_some_iff.mp h1
  exact ⟨r, h3, h2⟩
section
variable {P : Program} {w : World} {K : PySem.W.Frag} {mg : Str → Option Value} {base : Heap} {C CS U fG : Addr}
theorem ok_push {f : Addr} {fd : FuncData} (F : Fun K "push" "Standing.push" s_Standing_push f fd) (T0 : Txt K mg) (hz : mg "zip" = none) (SC : StCl K CS) (TC : TCl K mg C fG)
    (GA : CalX P w K mg base (L2.CX P w) 4 "need_absent" ["standing", "number"] (spAbsent K CS U)) (GQ : CalX P w K mg base (L2.CX P w) 4 "need_queue" ["tree", "queue", "word"] (spNeedQueue K C U))
    (GN : CalX P w K mg base (L2.CX P w) 3 "need" ["fits", "word"] (spNeed U)) (GF : CalX P w K mg base CX0 3 "fit_path" ["tree", "queue", "thing"] (spFit K C)) (GB : CalX P w K mg base CX0 1 "place_behind" ["line", "rank"] (spBehindL K)) :
    FnOk P w K mg base (L2.CX P w) 5 f fd ["self", "number", "queue", "ranks"] (spPush K C CS U) := by
  refine F.okX sc_Standing_push (fun vs H Q E h => ?_) (fun cdv A outer s H vs Q E hr h => ?_)
  · obtain ⟨a, ta, la, sd, S, Ls, T, L, kv, x, y, z, o, oq, d, rfl, _⟩ := h
    rfl
  obtain ⟨a, ta, la, sd, S, Ls, T, L, kv, x, y, z, o, oq, d, rfl, st, hht, hx, hy, hd, hdl, hL, hkv, q1, q2, q3, q4⟩ := h
  have hu := hu_of hr
  refine ⟨_, (pss_cons (ps_expr (pe_cx GA hr (by decide) rfl (passes_call (takes_of rfl rfl rfl rfl) (fun _ _ _ _ h => h)) (pa_cons (pv 0) (pa_cons (pv 1) pa_nil)))) 
    (pss_cons (ps_expr (pe_cx GQ hr (by decide) rfl (passes_call (takes_of rfl rfl rfl rfl) (fun _ _ _ _ h => h)) (pa_cons (pe_fld (pv 0) rfl) (pa_cons (pv 2) (pa_cons pe_str pa_nil))))) 
    (pss_cons (ps_expr (pe_cx GN hr (by decide) rfl (passes_call (takes_of rfl rfl rfl rfl) (fun _ _ _ _ h => h)) (pa_cons (pe_c0 GF hr (by decide) rfl (pa_cons (pe_fld (pv 0) rfl) (pa_cons (pv 2) (pa_cons (pv 3) pa_nil)))) (pa_cons pe_str pa_nil)))) 
    (pss_cons (ps_set (i := 4) sc_Standing_push.nd rfl (.inl rfl) (pe_ix ix_list (pe_fld (pe_fld (pv 0) rfl) rfl) (pv 2) (fun _ _ => rfl))) 
    (pss_cons (ps_conv (t' := tItemsS K C CS) (ps_set (i := 6) sc_Standing_push.nd rfl (.inl rfl) (pe_op op_cat (pe_lc (own := [("node", 5)]) (g := gName 5) (tt := tYes) (by rfl) sc_Standing_push.nd (pi_tup (pe_slice sl_tupA (pv 4) (po_some pe_int) po_none)) (blkOk_by (own := [("node", 5)]) (N := N_Standing_push) (sc := defScope s_Standing_push) (by decide +kernel)) (fun _ _ _ _ _ => pg_name (i := 5) sc_Standing_push.nd rfl (Or.inl rfl)) (fun _ _ _ _ _ => pts_nil) (fun _ _ _ _ _ => by exact (pe_ix (ix_listK (K := K) (by exact rfl)) (pe_fldK (K := K) (by exact rfl) (pe_fldK (K := K) (by exact rfl) (pv 0) rfl) rfl) (pv 5) (fun _ _ => rfl)))) (pe_lst (pa_cons (pv 1) pa_nil)))) (by
      rintro D σ H ⟨a, dx, ta, la, sd, n, pt, T, p, o2, o3, o5, o6, o7, o8, o9, rfl, hob, hTr, hp, hht, hpt, q⟩
      have hpl := hTr
      obtain ⟨dx', fv, L, S, h1, h2, h3, h4⟩ := hTr
      refine ⟨_, rfl, _, rfl, ?_⟩
      dsimp only [L2.tNoPart]
      refine rSlA_all hpt fun tp H2 s2 htp => ?_
      rw [show cutV (pth T p (p.length + 1)) (some (1 : Int)) none = (pth T p (p.length + 1)).drop 1 from cut_drop _ 1] at htp
      refine ⟨tp, rfl, ⟨_, htp⟩, fun Dl hDl => lc_tup (K := K) (a := tp) (xs := (pth T p (p.length + 1)).drop 1) (fun k H' => Same H2 H' ∧ H' Dl = some (.lst (sidesV p n k))) ⟨same_new hDl, upd_same⟩ (fun k H' _ hh => same_sqt hh.1 htp) ?_ ?_⟩
      · rintro k xv H3 hk ⟨s3, hD3⟩
        rw [List.getElem?_drop] at hk
        have hkl := (List.getElem?_eq_some_iff.mp hk).1
        rw [pth_len] at hkl
        rw [pth_at (by omega)] at hk
        obtain rfl := Option.some.inj hk
        have sA := s2.trans s3
        have hpa : p.take (1 + k) ∈ ad T := pre_ad (lv_ad hp) (List.take_prefix ..)
        obtain ⟨v, hv1, hv2⟩ := h2.node (k := 4) (by decide) hpa
        refine ⟨rfl, ?_⟩
        refine ⟨_, rfl, a, CS, dx, _, _, rfl, sA _ _ hob, SC.cl, SC.nT, rfl, ta, C, dx', _, _, rfl, sA _ _ h1.ob, TC.cl, TC.n4, stF_4 _ _, _, rfl, L 4, _, _, _, rfl, rfl, SqL.of (sA _ _ (h1.ls 4 (by decide))), hv1, ?_⟩
        have ev : v = .int (itm p n k) := by
          have z : v = .int (sideI (p.take (1 + k))) := hv2
          rw [z, show 1 + k = k + 1 by omega, sideI_take (by omega) n]
        refine ⟨_, hD3, small1000 (by rw [sidesV_len]; have := hpl; have z1 := ht_path hp; omega), same_mut s3 hDl, ?_⟩
        rw [upd_same, sidesV_succ, ev]
      · rintro H3 ⟨s3, hD3⟩
        rw [List.length_drop, pth_len] at hD3
        refine ⟨_, rfl, (by show 1 ≤ sizeLine; decide), fun l2 hl2 => ?_⟩
        have sB := s2.trans (s3.trans (same_new (o := .lst [.int n]) hl2))
        refine ⟨Dl, l2, _, _, rfl, rfl, same_new hl2 _ _ hD3, upd_same, (by rw [sidesV_len]; have := sizeLine_eq; have z1 := ht_path hp; show p.length + 1 - 1 + 1 ≤ _; omega), fun l hl => ?_⟩
        refine q _ l (sB.trans (same_new hl)) (sB.free hl) ?_
        rw [upd_same, sidesV_succ, itm_end]
        rfl)) 
    (pss_cons (ps_for (passes_of rfl) rfl (pi_zip3 (by rfl) hz (pa_cons (pv 4) (pa_cons (pv 3) (pa_cons (pv 6) pa_nil)))) (pg_tup (by rfl) (pgs_cons (pg_name (i := 5) sc_Standing_push.nd rfl (Or.inl rfl)) (pgs_cons (pg_name (i := 7) sc_Standing_push.nd rfl (Or.inl rfl)) (pgs_cons (pg_name (i := 8) sc_Standing_push.nd rfl (Or.inl rfl)) pgs_nil)))) 
      (pss_cons (ps_set (i := 9) sc_Standing_push.nd rfl (.inl rfl) (pe_ix ix_list (pe_fld (pv 0) rfl) (pv 5) (fun _ _ => rfl))) 
      (pss_one (ps_expr (pe_bm PySem.F.plainAttrs_list PySem.F.slot_list_insert PySem.F.type_list_insert mt_insert (pv 9) (pa_cons (pe_c0 GB hr (by decide) rfl (pa_cons (pv 9) (pa_cons (pv 7) pa_nil))) (pa_cons (pe_tup (pa_cons (pv 7) (pa_cons (pv 8) pa_nil))) pa_nil))))))) 
    (pss_one (ps_dput hu (pe_fld (pv 0) rfl) (pv 1) (pv 2) rfl)))))))), ?_⟩
  obtain ⟨dx, hob⟩ := st.obj
  have hTr := st.tree
  refine ⟨_, rfl, _, rfl, a, dx, ta, la, sd, x, o, kv, rfl, hob, st.se, hx, fun hA => ?_, fun hA => q1 hA⟩
  refine ⟨_, rfl, a, CS, dx, _, _, rfl, hob, SC.cl, SC.nT, rfl, _, rfl, ta, y, oq, T, "queue", rfl, hTr, hy, fun hB => ?_, fun hB => q2 hA hB H (fun _ _ z => z)⟩
  obtain ⟨i, p, hp, rfl⟩ := below_lv hB
  obtain rfl : y = .int (i : Nat) := hy
  refine ⟨_, rfl, a, CS, dx, _, _, rfl, hob, SC.cl, SC.nT, rfl, _, rfl, _, rfl, ta, i, z, T, p, d, rfl, hTr, hp, dp_same offS_same hd, hdl, fun H1 s1 => ?_⟩
  refine ⟨_, _, rfl, fun hF => ?_, fun hF => q3 hA i p rfl hp hF H1 s1⟩
  obtain ⟨rs, rfl, hrl, hrs⟩ := fit_ranks hF
  obtain ⟨n, rfl⟩ : ∃ n, o = some n := by
    cases o with
    | none => exact nomatch hA
    | some n => exact ⟨n, rfl⟩
  obtain rfl : x = .int n := hx
  have st1 := st.same s1
  obtain ⟨dx', fv, LL, SS, h1, h2, h3, h4⟩ := st1.tr
  have hp9 := h2 9 (by decide)
  obtain ⟨v9, e9, b9, rfl, hb9⟩ := Paired.at hp9 (show (aof 9 T)[i]? = some p from hp)
  have hpl : p ∈ lv T := List.mem_of_getElem? hp
  have hpth := ht_path hpl
  refine ⟨_, rfl, a, CS, dx, _, _, rfl, s1 _ _ hob, SC.cl, SC.nT, rfl, ta, C, dx', _, _, rfl, (offS_some h1.ob).2, TC.cl, TC.n9, stF_9 _ _, _, rfl, LL 9, _, _, _, rfl, rfl, SqL.of (offS_some (h1.ls 9 (by decide))).2, atI_nat e9, ?_⟩
  refine ⟨a, dx, ta, la, sd, n, b9, T, p, _, _, _, _, _, _, _, rfl, s1 _ _ hob, st1.tree, hpl, hht, same_sqt offS_same hb9, fun H2 il s2 hil0 hil => ?_⟩
  have st2 := st1.same s2
  have g2 := offS_grow (S := S) (N := []) s2 (fun y hy => nomatch hy)
  have hb2 : SqT K (offS S H2) b9 (pth T p (p.length + 1)) := same_sqt g2 hb9
  have hd2 : Dp K (offS S H2) z (.tuple (rs.map intsD)) := dp_same g2 (dp_same (offS_grow (S := S) (N := []) s1 (fun y hy => nomatch hy)) hd)
  have sA := s1.trans s2
  have hilS : il ∉ sd :: Ls := fun hm => st1.al il (st1.sub il hm) hil0
  generalize hz0 : V.ref b9 = b9v
  cases hd2 with
  | @tup zb zs _ hzs hza =>
  subst hz0
  have hzl := dps_len hza
  rw [List.length_map, hrl] at hzl
  refine ⟨_, rfl, _, rfl, _, rfl, b9, zb, il, pth T p (p.length + 1), zs, sidesV p n (p.length + 1), rfl, same_sqt offS_same hb2, same_sqt offS_same hzs, SqL.of hil, ?_⟩
  refine for_zip3 (K := K) (a := b9) (b := zb) (c := il) (xs := pth T p (p.length + 1)) (ys := zs) (zs := sidesV p n (p.length + 1)) (by rw [pth_len, hzl]) (by rw [pth_len, sidesV_len])
    (fun k σ H' => ∃ o5 o7 o8 o9, σ = [some (.ref a), some (.int n), some (.int (i : Nat)), some (.ref zb), some (.ref b9), o5, some (.ref il), o7, o8, o9] ∧ GoS (sd :: Ls) H2 H' ∧ StE K C CS S H' a ta la sd Ls T (pshK p rs n L k) kv)
    ⟨none, none, none, none, rfl, GoS.refl, by rw [pshK_zero]; exact st2⟩ ?_ ?_ ?_
  · rintro k σ H' ⟨o5, o7, o8, o9, rfl, g, s'⟩
    have gs : Same (offS S H2) (offS S H') := (g.wide s'.sub).s
    exact ⟨same_sqt (gs.trans offS_same) hb2, same_sqt (gs.trans offS_same) hzs, SqL.of (g.at hil hilS)⟩
  · rintro k x1 y1 u1 T1 σ H' hx1 hy1 hu1 ⟨o5, o7, o8, o9, rfl, g, s'⟩ hT1
    have hkl := (List.getElem?_eq_some_iff.mp hx1).1
    rw [pth_len] at hkl
    rw [pth_at hkl] at hx1
    rw [sidesV_at hkl] at hu1
    obtain rfl := Option.some.inj hx1
    obtain rfl := Option.some.inj hu1
    have gs : Same (offS S H2) (offS S H') := (g.wide s'.sub).s
    obtain ⟨r, hr1, hr2⟩ := dp_ranks hza hy1
    have hq : p.take k ∈ ad T := pre_ad (lv_ad hpl) (List.take_prefix ..)
    have s3 := s'.same (same_new (o := .tup [V.int (T.idx (p.take k) : Nat), y1, V.int (itm p n k)]) hT1)
    have g3 := g.new (v := .tup [V.int (T.idx (p.take k) : Nat), y1, V.int (itm p n k)]) hT1
    have hT3 : (upd H' T1 (.tup [V.int (T.idx (p.take k) : Nat), y1, V.int (itm p n k)])) T1 = some (.tup [V.int (T.idx (p.take k) : Nat), y1, V.int (itm p n k)]) := upd_same
    revert s3 g3 hT3
    generalize upd H' T1 (.tup [V.int (T.idx (p.take k) : Nat), y1, V.int (itm p n k)]) = H3
    intro s3 g3 hT3
    refine ⟨T1, _, rfl, SqT.of hT3, rfl, ?_⟩
    refine ⟨_, _, rfl, _, _, rfl, _, _, rfl, rfl, ?_⟩
    obtain ⟨dx3, hob3⟩ := s3.obj
    obtain ⟨l, xs, k1, k2, k3⟩ := s3.li _ hq
    rw [pshK_at p rs n L k (by omega)] at k3
    have gs3 : Same (offS S H2) (offS S H3) := (g3.wide s3.sub).s
    have hy3 : Dp K (offS S H3) y1 (intsD r) := dp_same gs3 hr2
    have hrr := hrs r (List.mem_of_getElem? hr1)
    have hkS : RkOK (L (p.take k)) := st.rk _
    have hkA : Asc1 (L (p.take k)) := st.pw _
    have hll := dps_len k3
    rw [List.length_map] at hll
    refine ⟨_, rfl, a, CS, dx3, _, _, rfl, hob3, SC.cl, SC.nL, rfl, _, rfl, la, _, _, _, rfl, rfl, SqL.of s3.lst, (atI_nat (by rw [List.getElem?_map, k1]; rfl)), ?_⟩
    refine ⟨_, rfl, .inl ⟨rfl, _, SqL.of k2⟩, ?_⟩
    refine ⟨_, rfl, _, rfl, l, y1, xs, _, intsD r, rfl, SqL.of k2, dps_same offS_same k3, dp_same offS_same hy3, line_en hkS hkA, hrr, (by rw [List.length_map]; have := hL (p.take k); omega), fun m hm => ?_⟩
    rw [rksOf_en, rkInts_ints] at hm
    have hml := hm.le
    rw [List.length_map] at hml
    refine ⟨_, rfl, _, rfl, (by show 2 ≤ sizeLine; decide), fun t ht => ?_⟩
    have s4 := s3.same (same_new (o := .tup [y1, V.int (itm p n k)]) ht)
    have g4 := g3.new (v := .tup [y1, V.int (itm p n k)]) ht
    have gg : Same (offS S H3) (offS S (upd H3 t (.tup [y1, V.int (itm p n k)]))) := (GoS.of (same_new ht)).s
    have ht4 : (upd H3 t (.tup [y1, V.int (itm p n k)])) t = some (.tup [y1, V.int (itm p n k)]) := upd_same
    have k24 : (upd H3 t (.tup [y1, V.int (itm p n k)])) l = some (.lst xs) := same_new ht _ _ k2
    have htS : t ∉ S := fun z => s3.al t z ht
    revert s4 g4 gg ht4 k24
    generalize upd H3 t (.tup [y1, V.int (itm p n k)]) = H4
    intro s4 g4 gg ht4 k24
    have hsl := sizeLine_eq
    have hLk := hL (p.take k)
    refine ⟨l, xs, (m : Nat), .ref t, rfl, rfl, k24, by omega, by omega, by omega, ?_⟩
    rw [Int.toNat_natCast]
    have hent : Dp K (offS S H4) (.ref t) (enD (r, itm p n k)) := .tup (SqT.of (by rw [offS_ne htS]; exact ht4)) (.cons (dp_same gg hy3) (.cons (.int _) .nil))
    have hins := take_insE (e := (r, itm p n k)) hkA hm
    have hnew := dps_ins (v := .ref t) (dps_same gg k3) hent hins
    have hlM : l ∈ sd :: Ls := List.mem_cons_of_mem _ (List.mem_of_getElem? k1)
    refine ⟨_, _, _, _, rfl, g4.upd hlM, ?_⟩
    have fin := s4.setL (q := p.take k) hq k1 hnew (insE_rk hkS hrr) (insE_asc hkA)
    rw [pshK_succ p rs n L k (by omega)]
    have er : rs.getD k [] = r := by
      rw [List.getD_eq_getElem?_getD, hr1]
      rfl
    rw [er]
    exact fin
  · rintro σ H' ⟨o5, o7, o8, o9, rfl, g, s'⟩
    rw [pth_len, pshK_full] at s'
    obtain ⟨dx3, hob3⟩ := s'.obj
    have hsl := sizeLine_eq
    refine ⟨_, rfl, _, rfl, a, CS, dx3, _, _, rfl, hob3, SC.cl, SC.nS, rfl, _, rfl, sd, _, rfl, .inl ⟨kv, (Sum.inl n : Key), s'.se, rfl, by omega, rfl⟩, ?_⟩
    exact q4 hA n i p rs rfl rfl hp rfl hrl hrs _ (((GoS.of sA).trans g).upd (List.mem_cons_self ..)) (s'.setS _)
end
end K27
set_option Elab.async false
set_option linter.all false
set_option maxRecDepth 100000
set_option maxHeartbeats 4000000
namespace K27
open PySem PySem.Spec PyProof.Rows L2 Dt
/-! ### the queues of the packets -/
theorem valV_drop (k k' : Key) : ∀ kvs : List (Key × V), valV (dropK kvs k) k' = if k' = k then none else valV kvs k'
  | [] => by
    unfold valV dropK
    split <;> rfl
  | (k0, v) :: kvs => by
    have ih := valV_drop k k' kvs
    unfold valV dropK at ih ⊢
    rw [List.filter_cons]
    by_cases e : k0 = k
    · rw [if_neg (by simp [e])]
      rw [ih]
      by_cases z : k' = k
      · rw [if_pos z, if_pos z]
      · rw [if_neg z, if_neg z, List.find?_cons_of_neg (by simp [e]; exact Ne.symm z)]
    · rw [if_pos (by simpa using e)]
      by_cases z : k0 = k'
      · subst z
        rw [List.find?_cons_of_pos (by simp), List.find?_cons_of_pos (by simp), if_neg e]
      · rw [List.find?_cons_of_neg (by simpa using z), List.find?_cons_of_neg (by simpa using z), ih]
theorem valV_put (k k' : Key) (v : V) (kvs : List (Key × V)) : valV (putK kvs k v) k' = if k' = k then some v else valV kvs k' := by
  unfold putK
  by_cases h : (kvs.any fun kv => decide (kv.1 = k)) = true
  · rw [if_pos h]
    revert h
    induction kvs with
    | nil => exact fun h => nomatch h
    | cons e kvs ih =>
      obtain ⟨k0, v0⟩ := e
      intro h
      unfold valV
      rw [List.map_cons]
      by_cases e : k0 = k
      · subst e
        dsimp only
        rw [if_pos rfl]
        by_cases z : k' = k0
        · subst z
          rw [if_pos rfl, List.find?_cons_of_pos (by simp)]
          rfl
        · rw [if_neg z, List.find?_cons_of_neg (by simpa using Ne.symm z), List.find?_cons_of_neg (by simpa using Ne.symm z)]
          have : ∀ l : List (Key × V), (l.map fun kv => if kv.1 = k0 then (kv.1, v) else kv).find? (fun kv => decide (kv.1 = k')) = l.find? (fun kv => decide (kv.1 = k')) := by
            intro l
            induction l with
            | nil => rfl
            | cons y l ih2 =>
              rw [List.map_cons]
              by_cases q : y.1 = k0
              · rw [if_pos q, List.find?_cons_of_neg (by simp [q]; exact Ne.symm z), List.find?_cons_of_neg (by simp [q]; exact Ne.symm z), ih2]
              · rw [if_neg q]
                by_cases q2 : y.1 = k'
                · rw [List.find?_cons_of_pos (by simpa using q2), List.find?_cons_of_pos (by simpa using q2)]
                · rw [List.find?_cons_of_neg (by simpa using q2), List.find?_cons_of_neg (by simpa using q2), ih2]
          rw [this]
      · dsimp only
        rw [if_neg e]
        rw [List.any_cons, decide_eq_false e, Bool.false_or] at h
        have ih := ih h
        unfold valV at ih
        by_cases z : k0 = k'
        · subst z
          rw [List.find?_cons_of_pos (by simp), List.find?_cons_of_pos (by simp), if_neg e]
        · rw [List.find?_cons_of_neg (by simpa using z), List.find?_cons_of_neg (by simpa using z), ih]
  · rw [if_neg h]
    unfold valV
    rw [List.find?_append]
    by_cases z : k' = k
    · subst z
      rw [if_pos rfl]
      have : kvs.find? (fun kv => decide (kv.1 = k')) = none := by
        rw [List.find?_eq_none]
        intro y hy q
        exact h (List.any_eq_true.mpr ⟨y, hy, q⟩)
      rw [this]
      simp
    · rw [if_neg z]
      have : ([(k, v)] : List (Key × V)).find? (fun kv => decide (kv.1 = k')) = none := by
        rw [List.find?_cons_of_neg (by simpa using Ne.symm z)]
        rfl
      rw [this, Option.or_none]
theorem valV_some {kvs : List (Key × V)} {e : Key × V} (h : e ∈ kvs) : ∃ v, valV kvs e.1 = some v := by
  unfold valV
  cases q : kvs.find? (fun kv => decide (kv.1 = e.1)) with
  | some y => exact ⟨y.2, rfl⟩
  | none =>
    rw [List.find?_eq_none] at q
    exact absurd (decide_eq_true rfl) (q e h)
structure Seat (T : Dt) (L : Lns) (kv : List (Key × V)) : Prop where
  to : ∀ n i p, (lv T)[i]? = some p → n ∈ its (L p) → valV kv (Sum.inl n : Key) = some (.int (i : Nat))
  fr : ∀ k v, valV kv k = some v → ∃ n i p, k = Sum.inl n ∧ v = .int (i : Nat) ∧ (lv T)[i]? = some p ∧ n ∈ its (L p)
  nd : ∀ p ∈ lv T, (its (L p)).Nodup
theorem leaf_pre {T : Dt} {p q : Ad} (hp : p ∈ lv T) (hq : q ∈ lv T) (h : q <+: p) : q = p := by
  obtain ⟨s, rfl⟩ := h
  obtain ⟨w, h1, h2⟩ := lv_lf hq
  obtain ⟨w', h3, _⟩ := lv_lf hp
  cases s with
  | nil => rw [List.append_nil]
  | cons j s =>
    rw [(sub_app T q w h1 (j :: s)).1] at h3
    obtain ⟨k, hk, _⟩ := sub_len h3
    have := kid_lt hk
    omega
theorem lv_nodup (T : Dt) : (lv T).Nodup := (ad_nodup T).filter _
theorem lv_inj {T : Dt} {p q : Ad} {i : Nat} (h : (lv T)[i]? = some p) (g : (lv T)[i]? = some q) : p = q := Option.some.inj (h.symm.trans g)
theorem lv_i {T : Dt} {p : Ad} {i j : Nat} (h : (lv T)[i]? = some p) (g : (lv T)[j]? = some p) : i = j := by
  obtain ⟨h1, h2⟩ := List.getElem?_eq_some_iff.mp h
  obtain ⟨g1, g2⟩ := List.getElem?_eq_some_iff.mp g
  exact (List.getElem_inj (lv_nodup T)).mp (h2.trans g2.symm)
theorem dep_lv {T : Dt} {L : Lns} {n : Int} {p : Ad} {rs : List (List Int)} (d : Dep T L n p rs) : p ∈ lv T := by
  obtain ⟨w, h1, h2⟩ := d.lf
  refine List.mem_filter.mpr ⟨sub_ad h1, ?_⟩
  rw [isLf_o h1, h2]
  rfl
theorem cutL_leaf {T : Dt} {L : Lns} {p q : Ad} (hp : p ∈ lv T) (hq : q ∈ lv T) (h : q ≠ p) : cutL p L q = L q := if_neg fun z => h (leaf_pre hp hq z)
theorem cutL_self (p : Ad) (L : Lns) : cutL p L p = (L p).tail := if_pos (List.prefix_refl p)
theorem pshL_leaf {T : Dt} {L : Lns} {p q : Ad} {rs : List (List Int)} {n : Int} (hp : p ∈ lv T) (hq : q ∈ lv T) (h : q ≠ p) : pshL p rs n L q = L q := if_neg fun z => h (leaf_pre hp hq z)
theorem pshL_self (p : Ad) (rs : List (List Int)) (n : Int) (L : Lns) : (its (pshL p rs n L p)).Perm (n :: its (L p)) := by
  unfold pshL
  rw [if_pos (List.prefix_refl p), itm_end]
  exact (insE_perm _ _).map _
theorem Seat.cut {T : Dt} {L : Lns} {kv : List (Key × V)} {n : Int} {p : Ad} {rs : List (List Int)} (s : Seat T L kv) (d : Dep T L n p rs) : Seat T (cutL p L) (dropK kv (Sum.inl n : Key)) := by
  have hp := dep_lv d
  obtain ⟨r, t, hL, _⟩ := d.la
  have hn : n ∈ its (L p) := by rw [hL]; exact List.mem_cons_self ..
  have hnd := s.nd p hp
  rw [hL] at hnd
  have hnd' := List.nodup_cons.mp (show (n :: its t).Nodup from hnd)
  obtain ⟨i, hi⟩ := List.mem_iff_getElem?.mp hp
  have ht : cutL p L p = t := by rw [cutL_self, hL]; rfl
  refine ⟨fun n' i' p' h1 h2 => ?_, fun k v h => ?_, fun p' hp' => ?_⟩
  · rw [valV_drop]
    by_cases e : p' = p
    · subst e
      rw [ht] at h2
      have ne : n' ≠ n := fun z => hnd'.1 (by rw [← z]; exact h2)
      rw [if_neg (fun z => ne (Sum.inl.inj z))]
      exact s.to n' i' p' h1 (by rw [hL]; exact List.mem_cons_of_mem _ h2)
    · rw [cutL_leaf hp (List.mem_of_getElem? h1) e] at h2
      have g := s.to n' i' p' h1 h2
      rw [if_neg (fun z => ?_), g]
      have z := Sum.inl.inj z
      subst z
      rw [s.to n' i p hi hn] at g
      have : i = i' := by
        have := Option.some.inj g
        injection this with this
        omega
      subst this
      exact e (lv_inj h1 hi)
  · rw [valV_drop] at h
    by_cases e : k = Sum.inl n
    · rw [if_pos e] at h
      exact nomatch h
    · rw [if_neg e] at h
      obtain ⟨n', i', p', rfl, rfl, h1, h2⟩ := s.fr k v h
      refine ⟨n', i', p', rfl, rfl, h1, ?_⟩
      by_cases e2 : p' = p
      · subst e2
        rw [ht]
        rw [hL] at h2
        rcases List.mem_cons.mp (show n' ∈ n :: its t from h2) with z | z
        · exact absurd (congrArg Sum.inl z) e
        · exact z
      · rw [cutL_leaf hp (List.mem_of_getElem? h1) e2]
        exact h2
  · by_cases e : p' = p
    · rw [e, ht]
      exact hnd'.2
    · rw [cutL_leaf hp hp' e]
      exact s.nd p' hp'
theorem Seat.psh {T : Dt} {L : Lns} {kv : List (Key × V)} {n : Int} {p : Ad} {i : Nat} (rs : List (List Int)) (s : Seat T L kv) (hi : (lv T)[i]? = some p) (hn : valV kv (Sum.inl n : Key) = none) : Seat T (pshL p rs n L) (putK kv (Sum.inl n : Key) (.int (i : Nat))) := by
  have hp := List.mem_of_getElem? hi
  have no : ∀ p' ∈ lv T, n ∉ its (L p') := fun p' hp' z => by
    obtain ⟨i', hi'⟩ := List.mem_iff_getElem?.mp hp'
    rw [s.to n i' p' hi' z] at hn
    exact nomatch hn
  refine ⟨fun n' i' p' h1 h2 => ?_, fun k v h => ?_, fun p' hp' => ?_⟩
  · rw [valV_put]
    by_cases e : p' = p
    · subst e
      obtain rfl := lv_i h1 hi
      rcases List.mem_cons.mp ((pshL_self p' rs n L).mem_iff.mp h2) with z | z
      · rw [z, if_pos rfl]
      · rw [if_neg (fun q => no p' hp (by rw [← Sum.inl.inj q]; exact z))]
        exact s.to n' i' p' h1 z
    · rw [pshL_leaf hp (List.mem_of_getElem? h1) e] at h2
      rw [if_neg (fun q => no p' (List.mem_of_getElem? h1) (by rw [← Sum.inl.inj q]; exact h2))]
      exact s.to n' i' p' h1 h2
  · rw [valV_put] at h
    by_cases e : k = Sum.inl n
    · rw [if_pos e] at h
      exact ⟨n, i, p, e, (Option.some.inj h).symm, hi, (pshL_self p rs n L).mem_iff.mpr (List.mem_cons_self ..)⟩
    · rw [if_neg e] at h
      obtain ⟨n', i', p', rfl, rfl, h1, h2⟩ := s.fr k v h
      refine ⟨n', i', p', rfl, rfl, h1, ?_⟩
      by_cases e2 : p' = p
      · subst e2
        exact (pshL_self p' rs n L).mem_iff.mpr (List.mem_cons_of_mem _ h2)
      · rw [pshL_leaf hp (List.mem_of_getElem? h1) e2]
        exact h2
  · by_cases e : p' = p
    · subst e
      exact (pshL_self p' rs n L).nodup_iff.mpr (List.nodup_cons.mpr ⟨no p' hp, s.nd p' hp⟩)
    · rw [pshL_leaf hp hp' e]
      exact s.nd p' hp'
theorem con_empty : ∀ (q : Ad) (u w : Dt) (L : Lns), Con u L → L [] = [] → sub u q = some w → L q = []
  | [], _, _, _, _, h, _ => h
  | j :: q, u, w, L, cn, h, hq => by
    obtain ⟨k, hk, hk2⟩ := sub_len hq
    have h0 := cn.ct [] u j (sub_nil u) (kid_lt hk)
    rw [h] at h0
    have e : sh j L [] = [] := List.eq_nil_of_length_eq_zero (by rw [show sh j L [] = L ([] ++ [j]) from rfl, ← h0]; rfl)
    exact con_empty q k w (sh j L) (cn.kid hk) e hk2
theorem seat_empty {T : Dt} {L : Lns} {kv : List (Key × V)} (s : Seat T L kv) (c : Con T L) : kv = [] ↔ L [] = [] := by
  constructor
  · intro h
    by_cases e : L [] = []
    · exact e
    · obtain ⟨n, p, rs, d⟩ := dep_ex _ T L (Nat.le_refl _) c e
      obtain ⟨r, t, hL, _⟩ := d.la
      obtain ⟨i, hi⟩ := List.mem_iff_getElem?.mp (dep_lv d)
      have := s.to n i p hi (by rw [hL]; exact List.mem_cons_self ..)
      rw [h] at this
      exact nomatch this
  · intro h
    cases kv with
    | nil => rfl
    | cons e kv =>
      obtain ⟨v, hv⟩ := valV_some (List.mem_cons_self (a := e) (l := kv))
      obtain ⟨n, i, p, _, _, h1, h2⟩ := s.fr _ _ hv
      obtain ⟨w, hw, _⟩ := lv_lf (List.mem_of_getElem? h1)
      rw [con_empty p T w L c h hw] at h2
      exact nomatch h2
theorem dropK_le' (kv : List (Key × V)) (k : Key) : (dropK kv k).length ≤ kv.length := List.length_filter_le ..
theorem putK_le (kv : List (Key × V)) (k : Key) (v : V) : (putK kv k v).length ≤ kv.length + 1 := by
  unfold putK
  split
  · rw [List.length_map]
    omega
  · rw [List.length_append]
    exact Nat.le_refl _
end K27
set_option Elab.async false
set_option linter.all false
set_option maxRecDepth 100000
set_option maxHeartbeats 4000000
namespace K27
open PySem PySem.Spec PyProof.Rows L2 Dt
theorem offS_sub {S S' : List Addr} {H : Hp} (h : ∀ y ∈ S, y ∈ S') : Same (offS S' H) (offS S H) := fun y u e => by
  obtain ⟨h1, h2⟩ := offS_some e
  rw [offS_ne (fun z => h1 (h y z))]
  exact h2
theorem StE.shrink {K : PySem.W.Frag} {C CS : Addr} {S S' : List Addr} {H : Hp} {a ta la sd : Addr} {Ls : List Addr} {T : Dt} {L : Lns} {kv : List (Key × V)} (s : StE K C CS S' H a ta la sd Ls T L kv) (h : ∀ y ∈ S, y ∈ S') (g : ∀ y ∈ sd :: Ls, y ∈ S) : StE K C CS S H a ta la sd Ls T L kv := by
  have gs := offS_sub (H := H) h
  obtain ⟨dx, ob⟩ := s.ob
  refine ⟨g, fun y hy => s.al y (h y hy), s.nd, ⟨dx, gs _ _ ob⟩, s.tr.same gs, gs _ _ s.ln, s.len, fun q hq => ?_, s.se, s.rk, s.pw⟩
  obtain ⟨l, xs, h1, h2, h3⟩ := s.li q hq
  exact ⟨l, xs, h1, h2, dps_same gs h3⟩
/-- a new mutable object -/
theorem StE.with {K : PySem.W.Frag} {C CS : Addr} {S : List Addr} {H : Hp} {a ta la sd : Addr} {Ls : List Addr} {T : Dt} {L : Lns} {kv : List (Key × V)} (s : StE K C CS S H a ta la sd Ls T L kv) {p : Addr} {v : HO} (h : H p = none) : StE K C CS (p :: S) (upd H p v) a ta la sd Ls T L kv :=
  s.grow (N := [p]) (same_new h) (fun y hy => by rw [List.mem_singleton.mp hy]; exact h) fun y hy => by
    rw [List.mem_singleton.mp hy, upd_same]
    exact fun z => nomatch z
theorem GoS.mutNew {S : List Addr} {H H' : Hp} {p : Addr} {v : HO} (g : GoS S H H') (h : H p = none) : GoS S H (L2.upd H' p v) := ⟨fun y u e => by
  obtain ⟨h1, h2⟩ := offS_some e
  have h3 := g.at h2 h1
  rw [offS_ne h1, upd_ne (fun z => by rw [z, h] at h2; exact nomatch h2)]
  exact h3, fun y hy => by
  by_cases z : y = p
  · rw [z, upd_same]
    exact fun q => nomatch q
  · rw [upd_ne z]
    exact g.k y hy⟩
/-- one of the mutable objects is mutated, none of the standing's -/
theorem StE.mut {K : PySem.W.Frag} {C CS : Addr} {S : List Addr} {H : Hp} {a ta la sd : Addr} {Ls : List Addr} {T : Dt} {L : Lns} {kv : List (Key × V)} (s : StE K C CS S H a ta la sd Ls T L kv) {p : Addr} {v : HO} (h : p ∈ S) (n : p ∉ sd :: Ls) : StE K C CS S (upd H p v) a ta la sd Ls T L kv :=
  s.keep (M := [p]) (GoS.refl.upd (List.mem_singleton.mpr rfl)) (fun y hy => by rw [List.mem_singleton.mp hy]; exact h) fun y hy => by rw [List.mem_singleton.mp hy]; exact n
/-- the lines when the first k entries are taken -/
def cutK (p : Ad) (L : Lns) (k : Nat) : Lns := fun q => if q <+: p ∧ q.length < k then (L q).tail else L q
theorem cutK_zero (p : Ad) (L : Lns) : cutK p L 0 = L := by
  funext q
  unfold cutK
  rw [if_neg (fun z => absurd z.2 (Nat.not_lt_zero _))]
theorem cutK_full (p : Ad) (L : Lns) : cutK p L (p.length + 1) = cutL p L := by
  funext q
  unfold cutK cutL
  by_cases h : q <+: p
  · rw [if_pos ⟨h, by have := h.length_le; omega⟩, if_pos h]
  · rw [if_neg (fun z => h z.1), if_neg h]
theorem cutK_succ (p : Ad) (L : Lns) (k : Nat) (hk : k ≤ p.length) : cutK p L (k + 1) = fun q => if q = p.take k then (L (p.take k)).tail else cutK p L k q := by
  funext q
  have hl : (p.take k).length = k := by rw [List.length_take]; omega
  by_cases e : q = p.take k
  · rw [if_pos e, e]
    unfold cutK
    rw [if_pos ⟨List.take_prefix .., by omega⟩]
  · rw [if_neg e]
    unfold cutK
    by_cases h : q <+: p ∧ q.length < k
    · rw [if_pos h, if_pos ⟨h.1, by omega⟩]
    · rw [if_neg h, if_neg (fun z => ?_)]
      have : q.length = k := by
        have h1 : ¬ q.length < k := fun y => h ⟨z.1, y⟩
        omega
      refine e ?_
      rw [← this]
      exact (List.prefix_iff_eq_take.mp z.1)
theorem cutK_at (p : Ad) (L : Lns) (k : Nat) (hk : k ≤ p.length) : cutK p L k (p.take k) = L (p.take k) := by
  have hl : (p.take k).length = k := by rw [List.length_take]; omega
  unfold cutK
  rw [if_neg (fun z => by omega)]
theorem kidV_at {T w : Dt} {q : Ad} {j : Nat} (h : j < w.len) : (kidV T q w)[j]? = some (V.int (T.idx (q ++ [j]) : Nat)) := by
  unfold kidV
  rw [List.getElem?_map, List.getElem?_range h]
  rfl
theorem Dep.fork {T : Dt} {L : Lns} {n : Int} {p : Ad} {rs : List (List Int)} (d : Dep T L n p rs) {k : Nat} (hk : k < p.length) {w : Dt} (hw : sub T (p.take k) = some w) : p[k] < w.len := by
  obtain ⟨w', h1, _⟩ := d.lf
  have h2 := (sub_app T (p.take k) w hw (p.drop k)).1
  rw [List.take_append_drop, h1, List.drop_eq_getElem_cons hk] at h2
  obtain ⟨k', hk', _⟩ := sub_len h2.symm
  exact kid_lt hk'
def depD (n : Int) (i : Nat) (rs : List (List Int)) : PyData := .tuple [.int n, .int (i : Nat), .tuple (rs.map intsD)]
def spDepart (K : PySem.W.Frag) (C CS : Addr) : Sp := fun vs H Q _ => ∃ (a ta la sd : Addr) (S Ls : List Addr) (T : Dt) (L : Lns) (kv : List (Key × V)), vs = [.ref a] ∧ StE K C CS S H a ta la sd Ls T L kv ∧ T.ht < 20 ∧ Con T L ∧ Seat T L kv ∧ (∀ q, (L q).length ≤ 100000) ∧
  (L [] = [] → Q .non H) ∧
  (∀ n p rs i, Dep T L n p rs → (lv T)[i]? = some p → ∀ H' v, GoS (sd :: Ls) H H' → StE K C CS S H' a ta la sd Ls T (cutL p L) (dropK kv (Sum.inl n : Key)) → H v = none → Dp K (offS S H') (.ref v) (depD n i rs) → Q (.ref v) H')
theorem dps_tail {K : PySem.W.Frag} {H : Hp} {xs : List V} {l : List En} {e : En} (h : DpAll K H xs ((e :: l).map enD)) : ∃ b rv, xs = .ref b :: xs.tail ∧ DpAll K H xs.tail (l.map enD) ∧ SqT K H b [rv, .int e.2] ∧ Dp K H rv (intsD e.1) := by
  cases h with
  | cons h t =>
    cases h with
    | @tup b ys _ hs ha =>
      cases ha with
      | cons h1 ha =>
        cases ha with
        | cons h2 ha =>
          cases ha
          cases h2
          exact ⟨b, _, rfl, t, hs, h1⟩
theorem rk_tail {l : List En} {e : En} (h : RkOK (e :: l)) : RkOK l := fun y hy => h y (List.mem_cons_of_mem _ hy)
theorem asc_tail {l : List En} {e : En} (h : Asc1 (e :: l)) : Asc1 l := (List.pairwise_cons.mp (show ((e :: l).map (·.1)).Pairwise _ from h)).2
theorem dps_snoc' {K : PySem.W.Frag} {H : Hp} {xs : List V} {ds : List PyData} {v : V} {d : PyData} (h : DpAll K H xs ds) (g : Dp K H v d) : DpAll K H (xs ++ [v]) (ds ++ [d]) := dps_app h (.cons g .nil)
theorem seqIndex0 (n : Nat) : seqIndex? 0 (n + 1) = some 0 := by
  unfold seqIndex?
  simp
section
variable {P : Program} {w : World} {K : PySem.W.Frag} {mg : Str → Option Value} {base : Heap} {C CS U fG : Addr}
theorem ok_depart {f : Addr} {fd : FuncData} (F : Fun K "depart" "Standing.depart" s_Standing_depart f fd) (T0 : Txt K mg) (SC : StCl K CS) (TC : TCl K mg C fG) : FnOk P w K mg base CX0 5 f fd ["self"] (spDepart K C CS) := by
  refine F.ok sc_Standing_depart (fun vs H Q E h => ?_) (fun cdv A outer s H vs Q E hr h => ?_)
  · obtain ⟨a, ta, la, sd, S, Ls, T, L, kv, rfl, _⟩ := h
    rfl
  obtain ⟨a, ta, la, sd, S, Ls, T, L, kv, rfl, st, hht, con, seat, hL, q1, q2⟩ := h
  have hu := hu_of hr
  refine ⟨_, (pss_cons (ps_if (pt_not (pt_truth (pe_fld (pv 0) rfl) (by intro _; rfl))) 
      (pss_one (ps_ret pe_non)) pss_nil) 
    (pss_cons (ps_set (i := 1) sc_Standing_depart.nd rfl (.inl rfl) (pe_lst pa_nil)) 
    (pss_cons (ps_set (i := 2) sc_Standing_depart.nd rfl (.inl rfl) pe_int) 
    (pss_cons (ps_while PassesOwn.never (pt_truth (pe_ix ix_list (pe_fld (pe_fld (pv 0) rfl) rfl) (pv 2) (fun _ _ => rfl)) (by intro _; rfl)) 
      (pss_cons (ps_asg (pe_bm PySem.F.plainAttrs_list PySem.F.slot_list_pop PySem.F.type_list_pop mt_popAt (pe_ix ix_list (pe_fld (pv 0) rfl) (pv 2) (fun _ _ => rfl)) (pa_cons pe_int pa_nil)) (pg_tup (by rfl) (pgs_cons (pg_name (i := 3) sc_Standing_depart.nd rfl (Or.inl rfl)) (pgs_cons (pg_name (i := 4) sc_Standing_depart.nd rfl (Or.inl rfl)) pgs_nil)))) 
      (pss_cons (ps_expr (pe_bm PySem.F.plainAttrs_list PySem.F.slot_list_append PySem.F.type_list_append mt_append (pv 1) (pa_cons (pv 3) pa_nil))) 
      (pss_one (ps_set (i := 2) sc_Standing_depart.nd rfl (.inl rfl) (pe_ix ix_tup (pe_ix ix_list (pe_fld (pe_fld (pv 0) rfl) rfl) (pv 2) (fun _ _ => rfl)) (pv 4) (fun _ _ => rfl))))))) 
    (pss_cons (ps_asg (pe_bm PySem.F.plainAttrs_list PySem.F.slot_list_pop PySem.F.type_list_pop mt_popAt (pe_ix ix_list (pe_fld (pv 0) rfl) (pv 2) (fun _ _ => rfl)) (pa_cons pe_int pa_nil)) (pg_tup (by rfl) (pgs_cons (pg_name (i := 3) sc_Standing_depart.nd rfl (Or.inl rfl)) (pgs_cons (pg_name (i := 5) sc_Standing_depart.nd rfl (Or.inl rfl)) pgs_nil)))) 
    (pss_cons (ps_expr (pe_bm PySem.F.plainAttrs_list PySem.F.slot_list_append PySem.F.type_list_append mt_append (pv 1) (pa_cons (pv 3) pa_nil))) 
    (pss_cons (ps_set (i := 6) sc_Standing_depart.nd rfl (.inl rfl) (pe_dpop1 (pe_fld (pv 0) rfl) (pv 5) ⟨rfl, rfl, rfl, rfl⟩)) 
    (pss_one (ps_ret (pe_tup (pa_cons (pv 5) (pa_cons (pv 6) (pa_cons (pe_callTy call_tuple_of (by rfl) T0.tuple PyProof.Rows.boot_tuple (pa_cons (pv 1) pa_nil)) pa_nil))))))))))))), ?_⟩
  obtain ⟨dx, hob⟩ := st.obj
  refine ⟨_, rfl, a, CS, dx, _, _, rfl, hob, SC.cl, SC.nS, rfl, !kv.isEmpty, .inr (.inr ⟨kv, st.se, rfl⟩), ?_⟩
  by_cases he : L [] = []
  · have := (seat_empty seat con).mpr he
    subst this
    refine iteT ?_
    exact q1 he
  have hkn : kv.isEmpty = false := by
    cases kv with
    | nil => exact absurd ((seat_empty seat con).mp rfl) he
    | cons _ _ => rfl
  rw [hkn]
  refine iteF ?_
  obtain ⟨n, p, rs, d⟩ := dep_ex _ T L (Nat.le_refl _) con he
  have hp := dep_lv d
  have hpth := ht_path hp
  obtain ⟨i, hi⟩ := List.mem_iff_getElem?.mp hp
  refine ⟨(by show 0 ≤ sizeLine; decide), fun rl hrl => ?_⟩
  have st1 := st.with (v := .lst []) hrl
  have hrlS : rl ∉ sd :: Ls := fun z => st.al rl (st.sub rl z) hrl
  have hrlm : rl ∈ rl :: S := List.mem_cons_self ..
  have g1 : GoS (sd :: Ls) H (upd H rl (.lst [])) := GoS.refl.new hrl
  have hr1 : (upd H rl (.lst [])) rl = some (.lst []) := upd_same
  revert st1 g1 hr1
  generalize upd H rl (.lst []) = H1
  intro st1 g1 hr1
  refine ⟨fun m σ H' => ∃ (k : Nat) (o3 o4 : Option V) (vs : List V), σ = [some (.ref a), some (.ref rl), some (.int (T.idx (p.take k) : Nat)), o3, o4, none, none] ∧ m = p.length - k ∧ k ≤ p.length ∧ GoS (sd :: Ls) H H' ∧ StE K C CS (rl :: S) H' a ta la sd Ls T (cutK p L k) kv ∧ H' rl = some (.lst vs) ∧ DpAll K (offS (rl :: S) H') vs ((rs.take k).map intsD),
    ⟨p.length, 0, none, none, [], by rw [List.take_zero, idx_nil]; rfl, rfl, Nat.zero_le _, g1, by rw [cutK_zero]; exact st1, hr1, .nil⟩, ?_⟩
  rintro m σ H2 ⟨k, o3, o4, vs, rfl, rfl, hk, g2, st2, hr2, hv2⟩
  obtain ⟨dx2, hob2⟩ := st2.obj
  have hq : p.take k ∈ ad T := pre_ad (lv_ad hp) (List.take_prefix ..)
  obtain ⟨dx', fv, LL, SS, h1, h2, h3, h4⟩ := st2.tree
  obtain ⟨v2, e2, u, b2, hu2, rfl, hb2⟩ := h2.node (k := 2) (by decide) hq
  obtain ⟨l, xs, k1, k2, k3⟩ := st2.li _ hq
  rw [cutK_at p L k hk] at k3
  have hlM : l ∈ sd :: Ls := List.mem_cons_of_mem _ (List.mem_of_getElem? k1)
  have nrl : rl ≠ l := fun z => hrlS (by rw [z]; exact hlM)
  refine ⟨_, rfl, a, CS, dx2, _, _, rfl, hob2, SC.cl, SC.nT, rfl, ta, C, dx', _, _, rfl, h1.ob, TC.cl, TC.n2, stF_2 _ _, _, rfl, LL 2, _, _, _, rfl, rfl, SqL.of (h1.ls 2 (by decide)), e2, ?_⟩
  refine ⟨!(kidV T (p.take k) u).isEmpty, .inr (.inl ⟨_, hb2, rfl⟩), ?_⟩
  have hkl : (kidV T (p.take k) u).length = u.len := by unfold kidV; rw [List.length_map, List.length_range]
  have hvl := dps_len hv2
  rw [List.length_map, List.length_take, d.len] at hvl
  -- the entry that is taken away
  have take1 : ∀ r nn t, L (p.take k) = (r, nn) :: t → rs[k]? = some r → ∃ b rv, xs = .ref b :: xs.tail ∧ DpAll K (offS (rl :: S) H2) xs.tail (t.map enD) ∧ SqT K (offS (rl :: S) H2) b [rv, .int nn] ∧ Dp K (offS (rl :: S) H2) rv (intsD r) ∧ ∃ H3, H3 = upd (upd H2 l (.lst xs.tail)) rl (.lst (vs ++ [rv])) ∧ GoS (sd :: Ls) H H3 ∧ StE K C CS (rl :: S) H3 a ta la sd Ls T (cutK p L (k + 1)) kv ∧ H3 rl = some (.lst (vs ++ [rv])) ∧ DpAll K (offS (rl :: S) H3) (vs ++ [rv]) ((rs.take (k + 1)).map intsD) := by
    intro r nn t hLt hrk
    rw [hLt] at k3
    obtain ⟨b, rv, x1, x2, x3, x4⟩ := dps_tail k3
    have ak := st.pw (p.take k)
    have rk := st.rk (p.take k)
    rw [hLt] at ak rk
    have s3 := (st2.setL hq k1 x2 (rk_tail rk) (asc_tail ak)).mut (p := rl) (v := .lst (vs ++ [rv])) hrlm hrlS
    have gg : GoS (rl :: S) H2 (upd (upd H2 l (.lst xs.tail)) rl (.lst (vs ++ [rv]))) := (GoS.refl.upd (List.mem_cons_of_mem _ (st.sub l hlM))).upd hrlm
    refine ⟨b, rv, x1, x2, x3, x4, _, rfl, (g2.upd hlM).mutNew hrl, ?_, upd_same, ?_⟩
    · rw [cutK_succ p L k hk, hLt]
      exact s3
    · rw [List.take_add_one, hrk, Option.toList_some, List.map_append]
      exact dps_same gg.s (dps_snoc' hv2 x4)
  refine ite2 (fun hc => ?_) (fun hc => ?_)
  · have hul : u.len ≠ 0 := fun z => by
      rw [List.eq_nil_of_length_eq_zero (hkl.trans z)] at hc
      exact nomatch hc
    have hkp : k < p.length := by
      refine Nat.lt_of_le_of_ne hk fun z => ?_
      obtain ⟨w', z1, z2⟩ := d.lf
      rw [z, List.take_length, z1] at hu2
      rw [← Option.some.inj hu2] at hul
      exact hul z2
    obtain ⟨r, t, hLt, hrk⟩ := d.hd k p[k] (List.getElem?_eq_getElem hkp)
    obtain ⟨b, rv, x1, x2, x3, x4, H3, hH3, g3, st3, hr3, hv3⟩ := take1 r _ t hLt hrk
    refine ⟨_, fun _ _ z => z, ?_⟩
    have hxl : xs.length = xs.tail.length + 1 := by rw [x1]; rfl
    have hx0 : xs[0]? = some (.ref b) := by rw [x1]; rfl
    have hxe : xs.eraseIdx 0 = xs.tail := by cases xs <;> rfl
    refine ⟨_, rfl, a, CS, dx2, _, _, rfl, hob2, SC.cl, SC.nL, rfl, _, rfl, la, _, _, _, rfl, rfl, SqL.of st2.lst, (atI_nat (by rw [List.getElem?_map, k1]; rfl)), ?_⟩
    refine ⟨.inl ⟨rfl, _, SqL.of k2⟩, ?_⟩
    refine ⟨l, xs, 0, 0, .ref b, rfl, rfl, k2, by decide, by decide, (by rw [hxl]; exact seqIndex0 _), hx0, ?_⟩
    rw [hxe]
    have gA : GoS (rl :: S) H2 (upd H2 l (.lst xs.tail)) := GoS.refl.upd (List.mem_cons_of_mem _ (st.sub l hlM))
    refine ⟨b, _, rfl, same_sqt offS_same (same_sqt gA.s x3), rfl, ?_⟩
    refine ⟨_, _, rfl, _, _, rfl, rfl, ?_⟩
    have hrA : (upd H2 l (.lst xs.tail)) rl = some (.lst vs) := by rw [upd_ne nrl]; exact hr2
    refine ⟨_, rfl, .inl ⟨rfl, _, SqL.of hrA⟩, ?_⟩
    refine ⟨_, rfl, rl, vs, _, rfl, rfl, hrA, small1000 (by have := hht; omega), ?_⟩
    rw [← hH3]
    obtain ⟨dx3, hob3⟩ := st3.obj
    obtain ⟨dy', fv', LL', SS', y1, y2, y3, y4⟩ := st3.tree
    obtain ⟨w2, f2, u', b3, hu3, rfl, hb3⟩ := y2.node (k := 2) (by decide) hq
    rw [hu2] at hu3
    obtain rfl := Option.some.inj hu3
    have hpk := d.fork hkp hu2
    refine ⟨_, rfl, a, CS, dx3, _, _, rfl, hob3, SC.cl, SC.nT, rfl, ta, C, dy', _, _, rfl, y1.ob, TC.cl, TC.n2, stF_2 _ _, _, rfl, LL' 2, _, _, _, rfl, rfl, SqL.of (y1.ls 2 (by decide)), f2, ?_⟩
    refine ⟨_, rfl, b3, _, _, _, rfl, rfl, hb3, atI_nat (kidV_at hpk), ?_⟩
    refine ⟨p.length - (k + 1), by omega, k + 1, some rv, some (.int (p[k] : Nat)), _, ?_, rfl, by omega, g3, st3, hr3, hv3⟩
    rw [List.take_succ_eq_append_getElem hkp]
    rfl
  · have hul : u.len = 0 := by
      rw [← hkl]
      cases z : kidV T (p.take k) u with
      | nil => rfl
      | cons _ _ =>
        rw [z] at hc
        exact absurd rfl hc
    have hkp : p.take k = p := by
      have h5 := (sub_app T (p.take k) u hu2 (p.drop k)).1
      obtain ⟨w', z1, _⟩ := d.lf
      rw [List.take_append_drop, z1] at h5
      cases z : p.drop k with
      | nil =>
        rw [List.drop_eq_nil_iff] at z
        exact List.take_of_length_le z
      | cons j q =>
        rw [z] at h5
        obtain ⟨k', hk', _⟩ := sub_len h5.symm
        have := kid_lt hk'
        omega
    have hke : k = p.length := by
      have := congrArg List.length hkp
      rw [List.length_take] at this
      omega
    obtain ⟨r, t, hLt, hrk⟩ := d.la
    rw [← hke] at hrk
    have hLt' : L (p.take k) = (r, n) :: t := by rw [hkp]; exact hLt
    obtain ⟨b, rv, x1, x2, x3, x4, H3, hH3, g3, st3, hr3, hv3⟩ := take1 r n t hLt' hrk
    have hxl : xs.length = xs.tail.length + 1 := by rw [x1]; rfl
    have hx0 : xs[0]? = some (.ref b) := by rw [x1]; rfl
    have hxe : xs.eraseIdx 0 = xs.tail := by cases xs <;> rfl
    refine ⟨_, rfl, a, CS, dx2, _, _, rfl, hob2, SC.cl, SC.nL, rfl, _, rfl, la, _, _, _, rfl, rfl, SqL.of st2.lst, (atI_nat (by rw [List.getElem?_map, k1]; rfl)), ?_⟩
    refine ⟨.inl ⟨rfl, _, SqL.of k2⟩, ?_⟩
    refine ⟨l, xs, 0, 0, .ref b, rfl, rfl, k2, by decide, by decide, (by rw [hxl]; exact seqIndex0 _), hx0, ?_⟩
    rw [hxe]
    have gA : GoS (rl :: S) H2 (upd H2 l (.lst xs.tail)) := GoS.refl.upd (List.mem_cons_of_mem _ (st.sub l hlM))
    refine ⟨b, _, rfl, same_sqt offS_same (same_sqt gA.s x3), rfl, ?_⟩
    refine ⟨_, _, rfl, _, _, rfl, rfl, ?_⟩
    have hrA : (upd H2 l (.lst xs.tail)) rl = some (.lst vs) := by rw [upd_ne nrl]; exact hr2
    refine ⟨_, rfl, .inl ⟨rfl, _, SqL.of hrA⟩, ?_⟩
    refine ⟨_, rfl, rl, vs, _, rfl, rfl, hrA, small1000 (by have := hht; omega), ?_⟩
    rw [← hH3]
    obtain ⟨dx3, hob3⟩ := st3.obj
    have hin : n ∈ its (L p) := by rw [hLt]; exact List.mem_cons_self ..
    refine ⟨_, rfl, a, CS, dx3, _, _, rfl, hob3, SC.cl, SC.nS, rfl, sd, rfl, .inl ⟨kv, .inl st3.se⟩, _, rfl, kv, (Sum.inl n : Key), _, st3.se, rfl, seat.to n i p hi hin, ?_⟩
    have st4 := st3.setS (dropK kv (Sum.inl n : Key))
    have hsdS : sd ∈ S := st.sub sd (List.mem_cons_self ..)
    have nsd : rl ≠ sd := fun z => hrlS (by rw [z]; exact List.mem_cons_self ..)
    have g4 : GoS (sd :: Ls) H (upd H3 sd (.dK (dropK kv (Sum.inl n : Key)))) := g3.upd (List.mem_cons_self ..)
    have gB : GoS (rl :: S) H3 (upd H3 sd (.dK (dropK kv (Sum.inl n : Key)))) := GoS.refl.upd (List.mem_cons_of_mem _ hsdS)
    have hr4 : (upd H3 sd (.dK (dropK kv (Sum.inl n : Key)))) rl = some (.lst (vs ++ [rv])) := by rw [upd_ne nsd]; exact hr3
    have hv4 := dps_same gB.s hv3
    revert st4 g4 gB hr4 hv4
    generalize upd H3 sd (.dK (dropK kv (Sum.inl n : Key))) = H4
    intro st4 g4 gB hr4 hv4
    refine ⟨_, rfl, _, rfl, _, rfl, rl, _, rfl, .inl ⟨SqL.of hr4, fun tt htt => ⟨(by show 3 ≤ sizeLine; decide), fun v hv => ?_⟩⟩⟩
    have s5 : Same H4 (upd H4 tt (.tup (vs ++ [rv]))) := same_new htt
    have s6 : Same H4 (upd (upd H4 tt (.tup (vs ++ [rv]))) v (.tup [.int n, .int (i : Nat), .ref tt])) := s5.trans (same_new hv)
    have hl4 : (rs.take (k + 1)) = rs := List.take_of_length_le (by rw [d.len]; omega)
    rw [hl4] at hv4
    have httS : tt ∉ rl :: S := fun z => st4.al tt z htt
    have hvS : v ∉ rl :: S := fun z => st4.al v z (s5.free hv)
    have ntv : tt ≠ v := fun z => by
      rw [z, ← z, upd_same] at hv
      exact nomatch hv
    have fin := ((st4.same s6).shrink (S := S) (fun y hy => List.mem_cons_of_mem _ hy) st.sub)
    rw [hke, cutK_full] at fin
    refine q2 n p rs i d hi _ v (g4.trans (GoS.of s6)) fin (g4.free (s5.free hv)) ?_
    refine dp_same (offS_sub (S := S) (S' := rl :: S) fun y hy => List.mem_cons_of_mem _ hy) ?_
    have g6 : Same (offS (rl :: S) H4) (offS (rl :: S) (upd (upd H4 tt (.tup (vs ++ [rv]))) v (.tup [.int n, .int (i : Nat), .ref tt]))) := (GoS.of s6).s
    refine .tup (SqT.of (by rw [offS_ne hvS]; exact upd_same)) (.cons (.int _) (.cons (.int _) (.cons (.tup (SqT.of ?_) (dps_same g6 hv4)) .nil)))
    rw [offS_ne httS, upd_ne ntv]
    exact upd_same
end
end K27
set_option Elab.async false
set_option linter.all false
set_option maxRecDepth 100000
set_option maxHeartbeats 4000000
namespace L2
open PySem PySem.Spec PyProof.Rows
section
variable {X : Cx}
/-- xs[i] op= e: the read -/
theorem pg_getL : PGet X (rIxL X.K) := by
  intro pins s σ H x y v u Q I rx ry h
  obtain ⟨p, xs, i, z, rfl, rfl, hq, he, q⟩ := h
  cases rx
  obtain ⟨t, rfl⟩ := ry
  obtain ⟨its, r, pl, hz⟩ := I.list hq
  obtain ⟨j, h1, h2, h3, h4, h5⟩ := atI_get he
  obtain ⟨w, ew, rw'⟩ := r.get h2
  have hl := r.length
  have hn := line63
  have fin : EP X pins σ Q w s := ⟨z, H, I, rw', q⟩
  by_cases h0 : 0 ≤ i
  · have hj : i.toNat = j := by
      rw [seqIndex_of h0 h5] at h1
      exact Option.some.inj h1
    exact wpAny_getItem_list pl.isList h0 (by omega) (by rw [hj]; simpa using ew) fin
  · have hj : (i + (its.toArray.size : Int)).toNat = j := by
      rw [seqIndex_neg (by omega) h4] at h1
      rw [List.size_toArray, ← hl]
      exact Option.some.inj h1
    exact wpAny_getItem_list_neg pl.isList (by omega) (by rw [List.size_toArray] <;> omega) (by omega) (by rw [hj]; simpa using ew) fin
end
end L2
namespace K27
open PySem PySem.Spec PyProof.Rows L2 Dt
theorem mrg_at : ∀ (i : Nat) (cs : List Nat) (f : Nat → List Int) (j : Nat), Enough cs f → cs[i]? = some j → ∃ z, (mrg cs f)[i]? = some z ∧ (f j)[(cs.take i).count j]? = some z
  | _, [], _, _, _, h => by simp at h
  | 0, a :: cs, f, j, hn, h => by
    obtain rfl : a = j := by simpa using h
    obtain ⟨y, t, ey⟩ := hn.head
    refine ⟨y, ?_, ?_⟩
    · show ((f a).headD 0 :: mrg cs (dropAt f a))[0]? = _
      rw [ey]
      rfl
    · rw [ey]
      rfl
  | i + 1, a :: cs, f, j, hn, h => by
    obtain ⟨z, h1, h2⟩ := mrg_at i cs (dropAt f a) j hn.tail (by simpa using h)
    refine ⟨z, h1, ?_⟩
    rw [List.take_succ_cons]
    unfold dropAt at h2
    by_cases e : j = a
    · subst e
      rw [if_pos rfl] at h2
      rw [List.count_cons_self]
      rw [List.getElem?_tail] at h2
      exact h2
    · rw [if_neg e] at h2
      rw [List.count_cons_of_ne (Ne.symm e)]
      exact h2
/-- the lines of a standing, to read -/
structure RdS (K : PySem.W.Frag) (C : Addr) (H : Hp) (ta la : Addr) (Ls : List Addr) (T : Dt) (L : Lns) : Prop where
  tr : Tree K H C ta T
  ln : H la = some (.lst (Ls.map V.ref))
  li : ∀ q ∈ ad T, ∃ l xs, Ls[T.idx q]? = some l ∧ H l = some (.lst xs) ∧ DpAll K H xs ((L q).map enD)
theorem RdS.same {K : PySem.W.Frag} {C : Addr} {H H' : Hp} {ta la : Addr} {Ls : List Addr} {T : Dt} {L : Lns} (r : RdS K C H ta la Ls T L) (e : Same H H') : RdS K C H' ta la Ls T L :=
  ⟨r.tr.same e, e _ _ r.ln, fun q hq => by
    obtain ⟨l, xs, h1, h2, h3⟩ := r.li q hq
    exact ⟨l, xs, h1, e _ _ h2, dps_same e h3⟩⟩
theorem StE.rd {K : PySem.W.Frag} {C CS : Addr} {S : List Addr} {H : Hp} {a ta la sd : Addr} {Ls : List Addr} {T : Dt} {L : Lns} {kv : List (Key × V)} (s : StE K C CS S H a ta la sd Ls T L kv) : RdS K C H ta la Ls T L :=
  ⟨s.tree, s.lst, fun q hq => by
    obtain ⟨l, xs, h1, h2, h3⟩ := s.li q hq
    exact ⟨l, xs, h1, h2, dps_same offS_same h3⟩⟩
def at_ (q : Ad) (L : Lns) : Lns := fun r => L (q ++ r)
theorem at_nil (q : Ad) (L : Lns) : at_ q L [] = L q := by
  unfold at_
  rw [List.append_nil]
theorem Con.at {T u : Dt} {L : Lns} {q : Ad} (h : Con T L) (hq : sub T q = some u) : Con u (at_ q L) :=
  ⟨fun r w hr => h.it (q ++ r) w (by rw [(sub_app T q u hq r).1]; exact hr), fun r w j hr hj => by
    have := h.ct (q ++ r) w j (by rw [(sub_app T q u hq r).1]; exact hr) hj
    rw [List.append_assoc] at this
    exact this⟩
theorem sh_at (q : Ad) (L : Lns) (j : Nat) : sh j (at_ q L) = at_ (q ++ [j]) L := by
  funext r
  unfold sh at_
  rw [List.append_assoc]
  rfl
theorem dps_en {K : PySem.W.Frag} {H : Hp} {xs : List V} {l : List En} (h : DpAll K H xs (l.map enD)) {i : Nat} {v : V} (hv : xs[i]? = some v) : ∃ e b rv, l[i]? = some e ∧ v = .ref b ∧ SqT K H b [rv, .int e.2] ∧ Dp K H rv (intsD e.1) := by
  obtain ⟨d, h1, h2⟩ := dps_at h hv
  rw [List.getElem?_map] at h1
  obtain ⟨e, h3, rfl⟩ := Option.map_eq_some_iff.mp h1
  cases h2 with
  | @tup b ys _ hs ha =>
    cases ha with
    | cons g1 ha =>
      cases ha with
      | cons g2 ha =>
        cases ha
        cases g2
        exact ⟨e, b, _, h3, rfl, hs, g1⟩
theorem ix_tupK {X : Cx} {K : PySem.W.Frag} (hK : X.K = K) : IxR X (rIxT K) := by
  subst hK
  exact ix_tup
def countV (cs : List Nat) (m : Nat) : List V := (List.range m).map fun j => V.int (cs.count j : Nat)
theorem countV_at {cs : List Nat} {m j : Nat} (h : j < m) : (countV cs m)[j]? = some (V.int (cs.count j : Nat)) := by
  unfold countV
  rw [List.getElem?_map, List.getElem?_range h]
  rfl
theorem countV_len (cs : List Nat) (m : Nat) : (countV cs m).length = m := by
  unfold countV
  rw [List.length_map, List.length_range]
theorem countV_zero (m : Nat) : (List.replicate m [V.int 0]).flatten = countV [] m := by
  unfold countV
  induction m with
  | zero => rfl
  | succ m ih =>
    rw [List.replicate_succ', List.flatten_append, ih, List.range_succ, List.map_append]
    rfl
theorem countV_snoc {cs : List Nat} {m j : Nat} (h : j < m) : (countV cs m).set j (V.int ((cs.count j : Nat) + 1)) = countV (cs ++ [j]) m := by
  refine List.ext_getElem? fun i => ?_
  by_cases hi : i < m
  · rw [countV_at hi]
    by_cases e : j = i
    · subst e
      rw [List.getElem?_set_self (by rw [countV_len]; exact hi), List.count_append, List.count_singleton_self]
      rfl
    · rw [List.getElem?_set_ne e, countV_at hi, List.count_append, List.count_cons_of_ne (a := i) (b := j) e]
      rfl
  · rw [List.getElem?_eq_none (by rw [List.length_set, countV_len]; omega), List.getElem?_eq_none (by rw [countV_len]; omega)]
def spOrderAt (K : PySem.W.Frag) (C : Addr) (n : Nat) : Sp := fun vs H Q _ => ∃ (ta la : Addr) (Ls : List Addr) (T u : Dt) (L : Lns) (q : Ad), vs = [.ref ta, .ref la, .int (T.idx q : Nat)] ∧ RdS K C H ta la Ls T L ∧ Con T L ∧ sub T q = some u ∧ u.ht < n ∧ u.len ≤ 1000 ∧ (∀ q, (L q).length ≤ 100000) ∧
  ∀ H' p, Same H H' → H p = none → H' p = some (.lst ((ord u (at_ q L)).map V.int)) → Q (.ref p) H'
section
variable {P : Program} {w : World} {K : PySem.W.Frag} {mg : Str → Option Value} {base : Heap} {C CS U fG : Addr}
theorem ok_orderAt_step {n : Nat} (D : DefAt K mg "order_at" s_order_at ["tree", "lines", "node"]) (T0 : Txt K mg) (TC : TCl K mg C fG) (GO : CalX P w K mg base CX0 n "order_at" ["tree", "lines", "node"] (spOrderAt K C n)) : CalX P w K mg base CX0 (n + 1) "order_at" ["tree", "lines", "node"] (spOrderAt K C (n + 1)) := by
  refine D.ok sc_order_at (fun vs H Q E h => ?_) (fun f cdv A outer s H vs Q E hr h => ?_)
  · obtain ⟨ta, la, Ls, T, u, L, q, rfl, _⟩ := h
    rfl
  obtain ⟨ta, la, Ls, T, u, L, q, rfl, rd, con, hq, hht, hul, hL, qq⟩ := h
  refine ⟨_, (pss_cons (ps_set (i := 3) sc_order_at.nd rfl (.inl rfl) (pe_ix ix_list (pe_fld (pv 0) rfl) (pv 2) (fun _ _ => rfl))) 
    (pss_cons (ps_if (pt_not (pt_truth (pv 3) (by intro _; rfl))) 
      (pss_one (ps_ret (pe_lc (own := [("entry", 4)]) (g := gName 4) (tt := tYes) (by rfl) sc_order_at.nd (pi_list (pe_ix ix_list (pv 1) (pv 2) (fun _ _ => rfl))) (blkOk_by (own := [("entry", 4)]) (N := N_order_at) (sc := defScope s_order_at) (by decide +kernel)) (fun _ _ _ _ _ => pg_name (i := 4) sc_order_at.nd rfl (Or.inl rfl)) (fun _ _ _ _ _ => pts_nil) (fun _ _ _ _ _ => by exact (pe_ix (ix_tupK (K := K) (by exact rfl)) (pv 4) pe_int (fun _ _ => rfl)))))) pss_nil) 
    (pss_cons (ps_setLc (i := 6) (own := [("kid", 5)]) (g := gName 5) (tt := tYes) (by rfl) sc_order_at.nd rfl rfl (sw_true rfl rfl (by decide) (by decide)) (pi_tup (pv 3)) (blkOk_by (own := [("kid", 5)]) (N := N_order_at) (sc := defScope s_order_at) (by decide +kernel)) (fun _ _ _ _ _ => pg_name (i := 5) sc_order_at.nd rfl (Or.inl rfl)) (fun _ _ _ _ _ => pts_nil) (fun _ _ _ _ _ => by exact (pe_c0 GO hr (Nat.le_refl _) rfl (pa_cons (pv 0) (pa_cons (pv 1) (pa_cons (pv 5) pa_nil)))))) 
    (pss_cons (ps_set (i := 7) sc_order_at.nd rfl (.inl rfl) (pe_op op_rep (pe_lst (pa_cons pe_int pa_nil)) (pe_callB call_len_seq (by rfl) T0.len PySem.boot_len (pa_cons (pv 3) pa_nil)))) 
    (pss_cons (ps_set (i := 8) sc_order_at.nd rfl (.inl rfl) (pe_lst pa_nil)) 
    (pss_cons (ps_for PassesOwn.never rfl (pi_list (pe_ix ix_list (pv 1) (pv 2) (fun _ _ => rfl))) (pg_name (i := 4) sc_order_at.nd rfl (Or.inl rfl)) 
      (pss_cons (ps_set (i := 9) sc_order_at.nd rfl (.inl rfl) (pe_ix ix_tup (pv 4) pe_int (fun _ _ => rfl))) 
      (pss_cons (ps_expr (pe_bm PySem.F.plainAttrs_list PySem.F.slot_list_append PySem.F.type_list_append mt_append (pv 8) (pa_cons (pe_ix ix_list (pe_ix ix_list (pv 6) (pv 9) (fun _ _ => rfl)) (pe_ix ix_list (pv 7) (pv 9) (fun _ _ => rfl)) (fun _ _ => rfl)) pa_nil))) 
      (pss_one (ps_augS (pv 7) (pv 9) pg_getL pe_int ip_add set_list))))) 
    (pss_one (ps_ret (pv 8))))))))), ?_⟩
  have hqa := sub_ad hq
  obtain ⟨dx, fv, LL, SS, h1, h2, h3, h4⟩ := id rd.tr
  obtain ⟨v2, e2, u', b2, hu2, rfl, hb2⟩ := h2.node (k := 2) (by decide) hqa
  rw [hq] at hu2
  obtain rfl := Option.some.inj hu2
  have hkl : (kidV T q u).length = u.len := by unfold kidV; rw [List.length_map, List.length_range]
  obtain ⟨l, xs, k1, k2, k3⟩ := rd.li q hqa
  have hxl := dps_len k3
  rw [List.length_map] at hxl
  have hLq := hL q
  have hsl := sizeLine_eq
  have eL := at_nil q L
  refine ⟨_, rfl, ta, C, dx, _, _, rfl, h1.ob, TC.cl, TC.n2, stF_2 _ _, _, rfl, LL 2, _, _, _, rfl, rfl, SqL.of (h1.ls 2 (by decide)), e2, ?_⟩
  refine ⟨_, rfl, !(kidV T q u).isEmpty, .inr (.inl ⟨_, hb2, rfl⟩), ?_⟩
  by_cases hz : u.len = 0
  · have ek : kidV T q u = [] := List.eq_nil_of_length_eq_zero (hkl.trans hz)
    rw [ek]
    refine iteT ?_
    refine ⟨_, rfl, _, rfl, la, _, _, _, rfl, rfl, SqL.of rd.ln, (atI_nat (by rw [List.getElem?_map, k1]; rfl)), ?_⟩
    refine ⟨l, rfl, ⟨_, SqL.of k2⟩, fun Dl hDl => ?_⟩
    refine lc_list (K := K) (a := l) (xs := xs) (fun j H' => Same H H' ∧ H' Dl = some (.lst ((its ((L q).take j)).map V.int))) ⟨same_new hDl, upd_same⟩ (fun j H' _ hh => SqL.of (hh.1 _ _ k2)) ?_ ?_
    · rintro j x H' hj ⟨sm, hD⟩
      obtain ⟨e, b, rv, g1, rfl, g2, g3⟩ := dps_en k3 hj
      have hjl := (List.getElem?_eq_some_iff.mp hj).1
      refine ⟨rfl, ?_⟩
      refine ⟨_, rfl, b, _, _, _, rfl, rfl, same_sqt sm g2, (show atI [rv, V.int e.2] ((1 : Nat) : Int) = some (V.int e.2) from atI_nat rfl), ?_⟩
      refine ⟨_, hD, ?_, same_mut sm hDl, ?_⟩
      · unfold its
        rw [List.length_map, List.length_map, List.length_take]
        omega
      · rw [upd_same, List.take_add_one, g1]
        unfold its
        rw [List.map_append, List.map_append]
        rfl
    · rintro H' ⟨sm, hD⟩
      rw [hxl, List.take_length] at hD
      refine qq H' Dl sm hDl ?_
      rw [hD, ord_leaf hz, eL]
  have ek : (kidV T q u).isEmpty = false := by
    cases z : kidV T q u with
    | nil => rw [z] at hkl; exact absurd hkl.symm hz
    | cons _ _ => rfl
  rw [ek]
  refine iteF ?_
  have conu := con.at hq
  have hen := conu.enough hz
  rw [eL] at hen
  -- the orders of the children
  refine ⟨_, rfl, b2, rfl, ⟨_, hb2⟩, fun Dl hDl => ?_⟩
  refine lc_tup (K := K) (a := b2) (xs := kidV T q u) (fun j H' => Same H H' ∧ ∃ Os : List Addr, H' Dl = some (.lst (Os.map V.ref)) ∧ Os.length = j ∧ ∀ i t, Os[i]? = some t → t ≠ Dl ∧ H' t = some (.lst ((ordC u (at_ q L) i).map V.int))) ⟨same_new hDl, [], upd_same, rfl, fun i t z => nomatch z⟩ (fun j H' _ hh => same_sqt hh.1 hb2) ?_ ?_
  · rintro j x H' hj ⟨sm, Os, hD, hl, hO⟩
    have hjl := (List.getElem?_eq_some_iff.mp hj).1
    rw [hkl] at hjl
    rw [kidV_at hjl] at hj
    obtain rfl := Option.some.inj hj
    obtain ⟨k, hk⟩ := kid_of hjl
    have hsk : sub T (q ++ [j]) = some k := by
      rw [(sub_app T q u hq [j]).1, sub_one, hk]
    have hkh := ht_kid u j k hk
    refine ⟨rfl, _, rfl, _, rfl, _, rfl, ta, la, Ls, T, k, L, q ++ [j], rfl, rd.same sm, con, hsk, by omega, ?_, hL, fun H2 p s2 hp hp2 => ?_⟩
    · have := h4
      have z1 := idx_lt hsk
      have z2 := len_lt_nodes k
      omega
    have npD : p ≠ Dl := fun e => by
      rw [e, hD] at hp
      exact nomatch hp
    refine ⟨Os.map V.ref, s2 _ _ hD, small1000 (by rw [List.length_map]; omega), same_mut (sm.trans s2) hDl, Os ++ [p], by rw [upd_same, List.map_append]; rfl, by rw [List.length_append]; show Os.length + 1 = j + 1; omega, fun i t ht => ?_⟩
    have keep : ∀ t ys, H2 t = some (.lst ys) → t ≠ Dl → (upd H2 Dl (.lst (Os.map V.ref ++ [.ref p]))) t = some (.lst ys) := fun t ys h ne => by
      rw [upd_ne ne]
      exact h
    by_cases cc : i < Os.length
    · rw [List.getElem?_append_left cc] at ht
      obtain ⟨o1, o2⟩ := hO i t ht
      exact ⟨o1, keep t _ (s2 _ _ o2) o1⟩
    · have hi := (List.getElem?_eq_some_iff.mp ht).1
      rw [List.length_append] at hi
      have hi2 : i < Os.length + 1 := hi
      obtain rfl : i = Os.length := by omega
      rw [List.getElem?_append_right (Nat.le_refl _), Nat.sub_self] at ht
      obtain rfl := Option.some.inj ht
      refine ⟨npD, keep _ _ ?_ npD⟩
      rw [hl, ordC_at hk, sh_at]
      exact hp2
  rintro H1 ⟨s1, Os, hD, hOl, hO⟩
  rw [hkl] at hOl
  refine ⟨(by show 1 ≤ sizeLine; decide), fun l0 hl0 => ?_⟩
  have s2 : Same H1 (upd H1 l0 (.lst [.int 0])) := same_new hl0
  have h02 : (upd H1 l0 (.lst [.int 0])) l0 = some (.lst [.int 0]) := upd_same
  revert s2 h02
  generalize upd H1 l0 (.lst [.int 0]) = H2
  intro s2 h02
  refine ⟨_, rfl, b2, _, rfl, .inr (same_sqt (s1.trans s2) hb2), ?_⟩
  rw [hkl]
  refine ⟨l0, _, _, rfl, rfl, h02, by omega, by omega, (by show 1 * ((u.len : Nat) : Int).toNat ≤ _; omega), fun G hG => ?_⟩
  rw [Int.toNat_natCast, countV_zero]
  have s3 : Same H2 (upd H2 G (.lst (countV [] u.len))) := same_new hG
  have hG3 : (upd H2 G (.lst (countV [] u.len))) G = some (.lst (countV [] u.len)) := upd_same
  revert s3 hG3
  generalize upd H2 G (.lst (countV [] u.len)) = H3
  intro s3 hG3
  refine ⟨(by show 0 ≤ sizeLine; decide), fun R hR => ?_⟩
  have nGR : G ≠ R := fun z => by
    rw [z, hR] at hG3
    exact nomatch hG3
  have s4 : Same H3 (upd H3 R (.lst [])) := same_new hR
  have hG4 := s4 _ _ hG3
  have hR4 : (upd H3 R (.lst [])) R = some (.lst []) := upd_same
  revert s4 hG4 hR4
  generalize upd H3 R (.lst []) = H4
  intro s4 hG4 hR4
  have sG : H1 G = none := s2.free hG
  have sR : H1 R = none := s2.free (s3.free hR)
  have s14 := s2.trans (s3.trans s4)
  have sA := s1.trans s14
  refine ⟨_, rfl, _, rfl, la, _, _, _, rfl, rfl, SqL.of (sA _ _ rd.ln), (atI_nat (by rw [List.getElem?_map, k1]; rfl)), ?_⟩
  refine ⟨l, rfl, ⟨_, SqL.of (sA _ _ k2)⟩, ?_⟩
  refine for_list (K := K) (a := l) (xs := xs) (fun j σ H' => ∃ o4 o5 o9, σ = [some (.ref ta), some (.ref la), some (.int (T.idx q : Nat)), some (.ref b2), o4, o5, some (.ref Dl), some (.ref G), some (.ref R), o9] ∧ Same H1 H' ∧ H' G = some (.lst (countV ((chs (L q)).take j) u.len)) ∧ H' R = some (.lst (((mrg (chs (L q)) (ordC u (at_ q L))).take j).map V.int)))
    ⟨_, _, _, rfl, s14, by rw [List.take_zero]; exact hG4, by rw [List.take_zero]; exact hR4⟩ (fun j σ H' _ ⟨_, _, _, _, sm, _, _⟩ => SqL.of (sm _ _ (s1 _ _ k2))) ?_ ?_
  · rintro j x σ H' hj ⟨o4, o5, o9, rfl, sm, hGj, hRj⟩
    obtain ⟨e, b, rv, g1, rfl, g2, g3⟩ := dps_en k3 hj
    have hjl := (List.getElem?_eq_some_iff.mp hj).1
    have sB := s1.trans sm
    have hcj : (chs (L q))[j]? = some e.2.toNat := by
      unfold chs
      rw [List.getElem?_map, g1]
      rfl
    obtain ⟨c0, hc0, ec0⟩ := con.it q u hq hz e (List.mem_of_getElem? g1)
    have ec1 : e.2.toNat = c0 := by rw [ec0]; exact Int.toNat_natCast _
    rw [ec1] at hcj
    obtain ⟨z, z1, z2⟩ := mrg_at j _ _ c0 hen hcj
    obtain ⟨ot, hot⟩ : ∃ ot, Os[c0]? = some ot := ⟨_, List.getElem?_eq_getElem (by omega)⟩
    obtain ⟨o1, o2⟩ := hO c0 ot hot
    have hol := (List.getElem?_eq_some_iff.mp z2).1
    refine ⟨_, rfl, b, _, _, _, rfl, rfl, same_sqt sB g2, (show atI [rv, V.int e.2] ((1 : Nat) : Int) = some (V.int e.2) from atI_nat rfl), ?_⟩
    rw [ec0]
    refine ⟨_, rfl, ?_⟩
    refine ⟨.inl ⟨rfl, _, SqL.of hRj⟩, ?_⟩
    refine ⟨_, rfl, _, rfl, Dl, _, _, _, rfl, rfl, SqL.of (sm _ _ hD), (atI_nat (by rw [List.getElem?_map, hot]; rfl)), ?_⟩
    refine ⟨_, rfl, _, rfl, G, _, _, _, rfl, rfl, SqL.of hGj, atI_nat (countV_at hc0), ?_⟩
    refine ⟨ot, _, _, _, rfl, rfl, SqL.of (sm _ _ o2), (atI_nat (by rw [List.getElem?_map, z2]; rfl)), ?_⟩
    refine ⟨R, _, _, rfl, rfl, hRj, ?_, ?_⟩
    · rw [List.length_map, List.length_take]
      omega
    have hGR : (upd H' R (.lst (((mrg (chs (L q)) (ordC u (at_ q L))).take j).map V.int ++ [V.int z]))) G = some (.lst (countV ((chs (L q)).take j) u.len)) := by
      rw [upd_ne nGR]
      exact hGj
    have smR : Same H1 (upd H' R (.lst (((mrg (chs (L q)) (ordC u (at_ q L))).take j).map V.int ++ [V.int z]))) := same_mut sm sR
    have hRR : (upd H' R (.lst (((mrg (chs (L q)) (ordC u (at_ q L))).take j).map V.int ++ [V.int z]))) R = some (.lst (((mrg (chs (L q)) (ordC u (at_ q L))).take (j + 1)).map V.int)) := by
      rw [upd_same, List.take_add_one, z1, List.map_append]
      rfl
    revert hGR smR hRR
    generalize upd H' R (.lst (((mrg (chs (L q)) (ordC u (at_ q L))).take j).map V.int ++ [V.int z])) = H5
    intro hGR smR hRR
    refine ⟨_, rfl, _, rfl, G, _, _, _, rfl, rfl, SqL.of hGR, atI_nat (countV_at hc0), ?_⟩
    refine ⟨_, _, rfl, rfl, G, _, _, c0, rfl, rfl, hGR, ixN_nat (by rw [countV_len]; exact hc0), ?_⟩
    refine ⟨_, _, _, rfl, same_mut smR sG, ?_, ?_⟩
    · rw [upd_same, List.take_add_one, hcj]
      exact congrArg (fun l => some (HO.lst l)) (countV_snoc hc0)
    · rw [upd_ne (Ne.symm nGR)]
      exact hRR
  · rintro σ H' ⟨o4, o5, o9, rfl, sm, hGj, hRj⟩
    refine ⟨_, rfl, qq H' R (s1.trans sm) (s1.free sR) ?_⟩
    rw [hRj, ord_fork hz, eL, hxl, List.take_of_length_le (by rw [mrg_len]; unfold chs; rw [List.length_map]; exact Nat.le_refl _)]
end
end K27
set_option Elab.async false
set_option linter.all false
set_option maxRecDepth 100000
set_option maxHeartbeats 4000000
namespace K27
open PySem PySem.Spec PyProof.Rows L2 Dt
theorem kit_self {K : PySem.W.Frag} {U : Addr} : PySem.W.kitOne K (.ref U) (.ref U) = some true := by
  unfold PySem.W.kitOne
  rw [if_pos (by simp)]
/-- what isinstance asks of the class -/
structure IsS (K : PySem.W.Frag) (mg : Str → Option Value) (CS : Addr) : Prop where
  mg : mg "Standing" = some (.ref CS)
  no : ∀ t, (t = "int" ∨ t = "bool" ∨ t = "NoneType" ∨ t = "str" ∨ t = "tuple" ∨ t = "list") → PySem.W.kitOne K (.type t) (.ref CS) = some false
  f1 : PySem.W.findIn K (.ref CS) "__class__" = some (some (.builtin "object.__class__"))
  f2 : PySem.W.specialIn K (.builtin "object.__class__") "__get__" = some (some (.builtin "getset_descriptor.__get__"))
  f3 : PySem.W.takesIn K (.builtin "object.__class__") = some true
  f4 : PySem.W.mroIn K CS (.type "object") = some true
theorem mrg_all : ∀ (cs : List Nat) (f : Nat → List Int), (∀ j, cs.count j = (f j).length) → ∀ j, ∀ y ∈ f j, y ∈ mrg cs f
  | [], f, h, j, y, hy => by
    have := h j
    have e : f j = [] := List.eq_nil_of_length_eq_zero (by rw [← this]; rfl)
    rw [e] at hy
    exact nomatch hy
  | a :: cs, f, h, j, y, hy => by
    have ha := h a
    rw [List.count_cons_self] at ha
    obtain ⟨z, t, ez⟩ : ∃ z t, f a = z :: t := by
      cases e : f a with
      | nil =>
        rw [e] at ha
        exact absurd ha (by simp)
      | cons z t => exact ⟨z, t, rfl⟩
    show y ∈ (f a).headD 0 :: mrg cs (dropAt f a)
    have ih := mrg_all cs (dropAt f a) (fun i => by
      unfold dropAt
      by_cases e : i = a
      · subst e
        rw [if_pos rfl, List.length_tail]
        omega
      · rw [if_neg e, ← h i, List.count_cons_of_ne (Ne.symm e)]) j y
    by_cases e : j = a
    · subst e
      rw [ez] at hy
      rcases List.mem_cons.mp hy with rfl | hy
      · rw [ez]
        exact List.mem_cons_self ..
      · refine List.mem_cons_of_mem _ (ih ?_)
        unfold dropAt
        rw [if_pos rfl, ez]
        exact hy
    · refine List.mem_cons_of_mem _ (ih ?_)
      unfold dropAt
      rw [if_neg e]
      exact hy
theorem ordC_out {u : Dt} {L : Lns} {j : Nat} (h : ¬ j < u.len) : ordC u L j = [] := by
  unfold ordC
  rw [List.getD_eq_getElem?_getD, List.getElem?_eq_none (by rw [ordK_len]; omega)]
  rfl
theorem mem_ord : ∀ (p : Ad) (u w : Dt) (L : Lns), Con u L → sub u p = some w → w.len = 0 → ∀ n ∈ its (L p), n ∈ ord u L
  | [], u, w, L, cn, h, hw, n, hn => by
    rw [sub_nil] at h
    obtain rfl := Option.some.inj h
    rw [ord_leaf hw]
    exact hn
  | j :: p, u, w, L, cn, h, hw, n, hn => by
    obtain ⟨k, hk, hk2⟩ := sub_len h
    have hj := kid_lt hk
    have hl : u.len ≠ 0 := by omega
    have ih := mem_ord p k w (sh j L) (cn.kid hk) hk2 hw n hn
    rw [ord_fork hl]
    refine mrg_all _ _ (fun i => ?_) j n (by rw [ordC_at hk]; exact ih)
    by_cases hi : i < u.len
    · exact cn.exact hi
    · rw [ordC_out hi, List.count_eq_zero.mpr fun z => hi (cn.chs_lt hl i z)]
      rfl
theorem ht_le : ∀ {q : Ad} {T u : Dt}, sub T q = some u → u.ht ≤ T.ht
  | [], T, u, h => by
    rw [sub_nil] at h
    rw [Option.some.inj h]
    exact Nat.le_refl _
  | j :: q, T, u, h => by
    obtain ⟨k, hk, h2⟩ := sub_len h
    have h3 := ht_le h2
    have h4 := ht_kid T j k hk
    omega
def linesD (T : Dt) (L : Lns) : PyData := .tuple ((ad T).map fun q => .tuple ((L q).map enD))
def spOrder (K : PySem.W.Frag) (C CS : Addr) : Sp := fun vs H Q _ => ∃ (a ta la sd : Addr) (S Ls : List Addr) (T : Dt) (L : Lns) (kv : List (Key × V)), vs = [.ref a] ∧ StE K C CS S H a ta la sd Ls T L kv ∧ T.ht < 20 ∧ Con T L ∧ (∀ q, (L q).length ≤ 100000) ∧
  ∀ H' p, Same H H' → H p = none → H' p = some (.tup ((ord T L).map V.int)) → Q (.ref p) H'
def spAllL (K : PySem.W.Frag) (C CS : Addr) : Sp := fun vs H Q _ => ∃ (a ta la sd : Addr) (S Ls : List Addr) (T : Dt) (L : Lns) (kv : List (Key × V)), vs = [.ref a] ∧ StE K C CS S H a ta la sd Ls T L kv ∧
  ∀ H' p, Same H H' → H p = none → Dp K (offS S H') (.ref p) (linesD T L) → Q (.ref p) H'
/-- a standing, or a value of a plain kind -/
def StV (K : PySem.W.Frag) (CS : Addr) (H : Hp) (x : V) (g : Bool) : Prop := (g = true ∧ ∃ a dx fs, x = .ref a ∧ H a = some (.ins CS dx fs)) ∨ (g = false ∧ ∃ t, KindV K H x t)
def spNeedSt (K : PySem.W.Frag) (CS U : Addr) : Sp := fun vs H Q E => ∃ (x : V) (z : Str) (g : Bool), vs = [x, .str z] ∧ StV K CS H x g ∧ (g = true → Q .non H) ∧ (g = false → ∀ H', Same H H' → Out U z H' E)
def spOrderOf (K : PySem.W.Frag) (C CS U : Addr) : Sp := fun vs H Q E => ∃ (x y : V) (g : Bool), vs = [x, y] ∧ StV K CS H x g ∧ (g = false → ∀ H', Same H H' → Out U "standing" H' E) ∧
  (g = true → ∃ (a ta la sd : Addr) (S Ls : List Addr) (T : Dt) (L : Lns) (kv : List (Key × V)) (o : Option Int), x = .ref a ∧ StE K C CS S H a ta la sd Ls T L kv ∧ T.ht < 20 ∧ Con T L ∧ (∀ q, (L q).length ≤ 100000) ∧ NumV K H y o ∧
    (belowB (T.nodes : Nat) o = false → ∀ H', Same H H' → Out U "node" H' E) ∧
    (∀ q u, o = some (T.idx q : Nat) → sub T q = some u → ∀ H' p, Same H H' → H p = none → H' p = some (.tup ((ord u (at_ q L)).map V.int)) → Q (.ref p) H'))
def spPlaceOf (K : PySem.W.Frag) (C CS U : Addr) : Sp := fun vs H Q E => ∃ (x y z : V) (g : Bool), vs = [x, y, z] ∧ StV K CS H x g ∧ (g = false → ∀ H', Same H H' → Out U "standing" H' E) ∧
  (g = true → ∃ (a ta la sd : Addr) (S Ls : List Addr) (T : Dt) (L : Lns) (kv : List (Key × V)) (o on : Option Int), x = .ref a ∧ StE K C CS S H a ta la sd Ls T L kv ∧ T.ht < 20 ∧ Con T L ∧ Seat T L kv ∧ (∀ q, (L q).length ≤ 100000) ∧ NumV K H y o ∧ NumV K H z on ∧
    (belowB (T.nodes : Nat) o = false → ∀ H', Same H H' → Out U "node" H' E) ∧
    (∀ q u, o = some (T.idx q : Nat) → sub T q = some u → belowB packB on = false → ∀ H', Same H H' → Out U "number" H' E) ∧
    (∀ q u n, o = some (T.idx q : Nat) → sub T q = some u → on = some n → belowB packB on = true → n ∉ ord u (at_ q L) → ∀ H', Same H H' → Out U "number" H' E) ∧
    (∀ q u n (j : Nat), o = some (T.idx q : Nat) → sub T q = some u → on = some n → (ord u (at_ q L))[j]? = some n → (∀ i, i < j → (ord u (at_ q L))[i]? ≠ some n) → ∀ H', Same H H' → Q (.int (j : Nat)) H'))
def spWithin (K : PySem.W.Frag) (C : Addr) : Sp := fun vs H Q E => ∃ a T p q, vs = [.ref a, .int (T.idx q : Nat), .int (T.idx p : Nat)] ∧ Tree K H C a T ∧ p ∈ ad T ∧ q ∈ ad T ∧ Q (.bl (decide (p <+: q))) H
section
variable {P : Program} {w : World} {K : PySem.W.Frag} {mg : Str → Option Value} {base : Heap} {C CS U fG : Addr}
theorem ok_within (D : DefAt K mg "is_within" s_is_within ["tree", "node", "top"]) (TC : TCl K mg C fG) : CalX P w K mg base CX0 1 "is_within" ["tree", "node", "top"] (spWithin K C) := by
  refine D.ok sc_is_within (fun vs H Q E h => ?_) (fun f cdv A outer s H vs Q E hr h => ?_)
  · obtain ⟨a, t, p, q, rfl, _⟩ := h
    rfl
  obtain ⟨a, t, p, q, rfl, ⟨dx, fv, L, S, hT, hF, hV, h1⟩, hp, hq, qq⟩ := h
  obtain ⟨u, hu⟩ := ad_sub hp
  obtain ⟨v7, e7, wd, e8, rfl⟩ := hF.node (k := 7) (by decide) hp
  obtain rfl := Option.some.inj (e8.symm.trans hu)
  refine ⟨_, pss_one (ps_ret (pe_chain op_le op_lt (pv 2) (pv 1) (pe_ix ix_list (pe_fld (pv 0) rfl) (pv 2) (fun _ _ => rfl)))), ?_⟩
  refine ⟨_, rfl, _, rfl, _, _, rfl, rfl, _, rfl, ?_⟩
  have hw := within hu hq
  refine ite2 (fun c => ?_) (fun c => ?_)
  · have c' : ((t.idx p : Nat) : Int) ≤ (t.idx q : Nat) := of_decide_eq_true c
    refine ⟨_, rfl, a, C, dx, _, _, rfl, hT.ob, TC.cl, TC.n7, stF_7 _ _, _, rfl, L 7, _, _, _, rfl, rfl, SqL.of (hT.ls 7 (by decide)), e7, _, _, rfl, rfl, ?_⟩
    have e : decide (((t.idx q : Nat) : Int) < ((t.idx p + wd.nodes : Nat) : Int)) = decide (p <+: q) := by
      by_cases z : p <+: q
      · rw [decide_eq_true z]
        have := hw.mpr z
        exact decide_eq_true (by omega)
      · rw [decide_eq_false z]
        exact decide_eq_false (fun y => z (hw.mp ⟨by omega, by omega⟩))
    show Q (.bl (decide (((t.idx q : Nat) : Int) < ((t.idx p + wd.nodes : Nat) : Int)))) H
    rw [e]
    exact qq
  · have c' : ¬ ((t.idx p : Nat) : Int) ≤ (t.idx q : Nat) := fun z => c (decide_eq_true z)
    rw [decide_eq_false (fun z => c' (by have := hw.mpr z; omega))] at qq
    exact qq
theorem ok_orderAt (D : DefAt K mg "order_at" s_order_at ["tree", "lines", "node"]) (T : Txt K mg) (TC : TCl K mg C fG) : ∀ n : Nat, CalX P w K mg base CX0 n "order_at" ["tree", "lines", "node"] (spOrderAt K C n)
  | 0 => by
    obtain ⟨f, fd, F, m, b⟩ := D.ex
    have no : ∀ vs H Q E, ¬ spOrderAt K C 0 vs H Q E := fun vs H Q E h => by
      obtain ⟨ta, la, Ls, T, u, L, q, _, _, _, _, h, _⟩ := h
      exact absurd h (Nat.not_lt_zero _)
    exact ⟨f, fd, ⟨fun vs H Q E h => absurd h (no vs H Q E), fun A outer s H args us vs Q E _ _ _ _ h => absurd h (no vs H Q E)⟩, m, F.kp, b, fun_lk F⟩
  | n + 1 => ok_orderAt_step D T TC (ok_orderAt D T TC n)
theorem ok_order {f : Addr} {fd : FuncData} (F : Fun K "order" "Standing.order" s_Standing_order f fd) (T0 : Txt K mg) (SC : StCl K CS) (GO : CalX P w K mg base CX0 20 "order_at" ["tree", "lines", "node"] (spOrderAt K C 20)) : FnOk P w K mg base CX0 21 f fd ["self"] (spOrder K C CS) := by
  refine F.ok sc_Standing_order (fun vs H Q E h => ?_) (fun cdv A outer s H vs Q E hr h => ?_)
  · obtain ⟨a, ta, la, sd, S, Ls, T, L, kv, rfl, _⟩ := h
    rfl
  obtain ⟨a, ta, la, sd, S, Ls, T, L, kv, rfl, st, hht, con, hL, q⟩ := h
  refine ⟨_, (pss_one (ps_ret (pe_callTy call_tuple_of (by rfl) T0.tuple PyProof.Rows.boot_tuple (pa_cons (pe_c0 GO hr (by decide) rfl (pa_cons (pe_fld (pv 0) rfl) (pa_cons (pe_fld (pv 0) rfl) (pa_cons pe_int pa_nil)))) pa_nil)))), ?_⟩
  obtain ⟨dx, hob⟩ := st.obj
  obtain ⟨_, _, _, _, _, _, _, h4⟩ := st.tree
  have hn := len_lt_nodes T
  refine ⟨_, rfl, a, CS, dx, _, _, rfl, hob, SC.cl, SC.nT, rfl, _, rfl, a, CS, dx, _, _, rfl, hob, SC.cl, SC.nL, rfl, ta, la, Ls, T, T, L, [], (by rw [idx_nil]; rfl), st.rd, con, sub_nil T, hht, by omega, hL, fun H' p s hp hp2 => ?_⟩
  refine ⟨p, _, rfl, .inl ⟨SqL.of hp2, fun l hl => q _ l (s.trans (same_new hl)) (s.free hl) upd_same⟩⟩
end
end K27
set_option Elab.async false
set_option linter.all false
set_option maxRecDepth 100000
set_option maxHeartbeats 8000000
namespace K27
open PySem PySem.Spec PyProof.Rows L2 Dt
theorem Tree.off {K : PySem.W.Frag} {H : Hp} {C ta a CS dx : Addr} {fs : List (Str × V)} {T : Dt} (t : Tree K H C ta T) (ha : H a = some (.ins CS dx fs)) (ne : a ≠ ta) : Tree K (offS [a] H) C ta T := by
  obtain ⟨dx', fv, L, S, h1, h2, h3, h4⟩ := t
  have kt : KeepT H (offS [a] H) := fun y ys => ⟨fun h => by
    rw [offS_ne]
    · exact h
    · intro e
      rw [List.mem_singleton.mp e, ha] at h
      exact HO.noConfusion (Option.some.inj h), fun o h => by
    rw [offS_ne]
    · exact h
    · intro e
      rw [List.mem_singleton.mp e, ha] at h
      exact HO.noConfusion (Option.some.inj h)⟩
  refine ⟨dx', fv, L, S, ⟨?_, fun i hi => ?_, h1.inj⟩, fun i hi => Paired.mono (fun v q c => Cell.keep kt i v q c) (h2 i hi), h3.keep kt, h4⟩
  · rw [offS_ne (fun e => ne (List.mem_singleton.mp e).symm)]
    exact h1.ob
  · have := h1.ls i hi
    rw [offS_ne]
    · exact this
    · intro e
      rw [List.mem_singleton.mp e, ha] at this
      exact HO.noConfusion (Option.some.inj this)
theorem TN.off {K : PySem.W.Frag} {H0 H : Hp} {C ta a CS dx : Addr} {fs : List (Str × V)} {T : Dt} (t : TN K H0 H C ta T) (ha : H a = some (.ins CS dx fs)) (ne : a ≠ ta) : TN K H0 (offS [a] H) C ta T := by
  obtain ⟨dx', fv, L, S, h1, h2, h3, h4, h5⟩ := t
  have kt : KeepT H (offS [a] H) := fun y ys => ⟨fun h => by
    rw [offS_ne]
    · exact h
    · intro e
      rw [List.mem_singleton.mp e, ha] at h
      exact HO.noConfusion (Option.some.inj h), fun o h => by
    rw [offS_ne]
    · exact h
    · intro e
      rw [List.mem_singleton.mp e, ha] at h
      exact HO.noConfusion (Option.some.inj h)⟩
  refine ⟨dx', fv, L, S, ⟨?_, fun i hi => ?_, h1.inj⟩, fun i hi => Paired.mono (fun v q c => Cell.keep kt i v q c) (h2 i hi), h3.keep kt, h4, h5⟩
  · rw [offS_ne (fun e => ne (List.mem_singleton.mp e).symm)]
    exact h1.ob
  · have := h1.ls i hi
    rw [offS_ne]
    · exact this
    · intro e
      rw [List.mem_singleton.mp e, ha] at this
      exact HO.noConfusion (Option.some.inj this)
/-! ### Standing(form) -/
def spMade (K : PySem.W.Frag) (C CS U : Addr) : Sp := fun vs H Q E => ∃ (a dx : Addr) (v : V) (t : Dt), vs = [.ref a, v] ∧ H a = some (.ins CS dx []) ∧ DtV K H v t ∧ t.size ≤ 100000 ∧
  (t.good 1 = true → t.ht < 20 ∧ t.nodes ≤ 1000 ∧ ∀ H' ta la sd Ls, StE K C CS (sd :: Ls) H' a ta la sd Ls t (fun _ => []) [] → TN K H (offS (sd :: Ls) H') C ta t ∧ H la = none → (∀ y o, H y = some o → y ≠ a → H' y = some o) → (∀ y ∈ sd :: Ls, H y = none) → Q .non H') ∧
  (t.good 1 = false → ∀ H', Same H H' → Out U "form" H' E)
section
variable {P : Program} {w : World} {K : PySem.W.Frag} {mg : Str → Option Value} {base : Heap}
theorem ok_made {C CS U f fG : Addr} {fd : FuncData} (F : Fun K "__init__" "Standing.__init__" s_Standing_init f fd) (SC : StCl K CS) (TC : TCl K mg C fG)
    (GShapeTree : CalX P w K mg base (L2.CX P w) 23 "shape_tree" ["form", "word"] (spShapeTree K C U)) : FnOk P w K mg base (L2.CX P w) 24 f fd ["self", "form"] (spMade K C CS U) := by
  refine F.okX sc_Standing_init (fun vs H Q E h => ?_) (fun cdv A outer s H vs Q E hr h => ?_)
  · obtain ⟨a, dx, v, t, rfl, _⟩ := h
    rfl
  obtain ⟨a, dx, v, t, rfl, ho, hv, hz, q1, q2⟩ := h
  refine ⟨_, pss_cons (ps_fld (pv 0) (pe_cx GShapeTree hr (by decide) rfl (passes_call (takes_of rfl rfl rfl rfl) (fun _ _ _ _ h => h)) (pa_cons (pv 1) (pa_cons pe_str pa_nil))) rfl)
    (pss_cons (ps_fld (pv 0) (pe_lc (own := [("_", 2)]) (g := gName 2) (tt := tYes) (by rfl) sc_Standing_init.nd (pi_list (pe_fld (pe_fld (pv 0) rfl) rfl)) (blkOk_by (own := [("_", 2)]) (N := N_Standing_init) (sc := defScope s_Standing_init) (by decide +kernel)) (fun _ _ _ _ _ => pg_name (i := 2) sc_Standing_init.nd rfl (Or.inl rfl)) (fun _ _ _ _ _ => pts_nil) (fun _ _ _ _ _ => by exact (pe_lst pa_nil))) rfl)
    (pss_one (ps_fld (pv 0) pe_dnewK rfl))), ?_⟩
  refine ⟨_, rfl, v, t, "form", rfl, hv, hz, fun g => ?_, fun g H' s => q2 g H' s⟩
  obtain ⟨g1, g2, k⟩ := q1 g
  refine ⟨g1, g2, fun ta H1 _ s1 hTN hta hTr => ?_⟩
  have ho1 := s1 _ _ ho
  have nta : a ≠ ta := fun e => by
    rw [e, hta] at ho
    exact nomatch ho
  refine ⟨_, rfl, a, CS, dx, [], rfl, ho1, SC.cl, SC.nT, (by show 0 < 1000; decide), ?_⟩
  have TO := hTr.off ho1 nta
  have TNO := hTN.off ho1 nta
  have ob2 : (upd H1 a (.ins CS dx (putF "tree" (.ref ta) []))) a = some (.ins CS dx (st1 ta)) := upd_same
  have T2 := hTr.put CS dx [] ho1 nta (putF "tree" (.ref ta) [])
  have kq2 : ∀ y o, H1 y = some o → y ≠ a → (upd H1 a (.ins CS dx (putF "tree" (.ref ta) []))) y = some o := fun y o h n => by
    rw [upd_ne n]
    exact h
  have kp2 : ∀ y o, H y = some o → y ≠ a → (upd H1 a (.ins CS dx (putF "tree" (.ref ta) []))) y = some o := fun y o h n => by
    rw [upd_ne n]
    exact s1 _ _ h
  revert T2 ob2 kq2 kp2
  generalize upd H1 a (.ins CS dx (putF "tree" (.ref ta) [])) = H2
  intro ob2 T2 kq2 kp2
  have T2' := T2
  obtain ⟨dx', fv, L, S, h1, h2, h3, h4⟩ := T2'
  have hlen : (S 2).length = t.nodes := by
    rw [Paired.len (h2 2 (by decide))]
    exact ad_len t
  refine ⟨_, rfl, a, CS, dx, _, _, rfl, ob2, SC.cl, SC.nT, rfl, ta, C, dx', _, _, rfl, h1.ob, TC.cl, TC.n2, stF_2 _ _, L 2, rfl, ⟨_, SqL.of (h1.ls 2 (by decide))⟩, fun Dl hDl => ?_⟩
  refine lc_list (K := K) (a := L 2) (xs := S 2) (fun j H' => Same H2 H' ∧ ∃ Ls : List Addr, H' Dl = some (.lst (Ls.map V.ref)) ∧ Ls.length = j ∧ (∀ l ∈ Ls, H' l = some (.lst []) ∧ H2 l = none) ∧ (Dl :: Ls).Nodup) ⟨same_new hDl, [], upd_same, rfl, (fun _ z => nomatch z), by simp⟩ (fun j H' _ hh => SqL.of (hh.1 _ _ (h1.ls 2 (by decide)))) ?_ ?_
  · rintro j x H' hj ⟨sm, Ls, hD, hl, hls, hnd⟩
    have hjl := (List.getElem?_eq_some_iff.mp hj).1
    refine ⟨rfl, (by show 0 ≤ sizeLine; decide), fun p hp => ?_⟩
    have npD : p ≠ Dl := fun e => by
      rw [e, hD] at hp
      exact nomatch hp
    have npL : p ∉ Ls := fun z => by
      rw [(hls p z).1] at hp
      exact nomatch hp
    obtain ⟨nd1, nd2⟩ := List.nodup_cons.mp hnd
    refine ⟨Ls.map V.ref, (same_new hp) _ _ hD, small1000 (by rw [List.length_map]; omega), same_mut (sm.trans (same_new hp)) hDl, Ls ++ [p], by rw [upd_same, List.map_append]; rfl, by rw [List.length_append]; show Ls.length + 1 = j + 1; omega, fun l hl2 => ?_, ?_⟩
    · rcases List.mem_append.mp hl2 with hl2 | hl2
      · obtain ⟨e1, e2⟩ := hls l hl2
        refine ⟨?_, e2⟩
        rw [upd_ne (fun e => nd1 (by rw [← e]; exact hl2))]
        exact (same_new hp) _ _ e1
      · obtain rfl := List.mem_singleton.mp hl2
        refine ⟨?_, sm.free hp⟩
        rw [upd_ne npD]
        exact upd_same
    · refine List.nodup_cons.mpr ⟨fun z => ?_, List.nodup_append.mpr ⟨nd2, by simp, fun x hx y hy e => ?_⟩⟩
      · rcases List.mem_append.mp z with z | z
        · exact nd1 z
        · exact npD (List.mem_singleton.mp z).symm
      · rw [List.mem_singleton.mp hy] at e
        exact npL (e ▸ hx)
  rintro H3 ⟨sm, Ls, hD, hl, hls, hnd⟩
  have ob3 := sm _ _ ob2
  have nDa : Dl ≠ a := fun e => by
    rw [e, ob2] at hDl
    exact nomatch hDl
  refine ⟨_, rfl, a, CS, dx, _, rfl, ob3, SC.cl, SC.nL, (by show 1 < 1000; decide), ?_⟩
  have e4 : putF "lines" (.ref Dl) (st1 ta) = (st2 ta Dl) := putF_new (show ∀ g ∈ (["tree"] : List Str), ¬ g = "lines" by decide +kernel)
  rw [e4]
  have ob4 : (upd H3 a (.ins CS dx (st2 ta Dl))) a = some (.ins CS dx (st2 ta Dl)) := upd_same
  have hD4 := lst_upd (fs' := (st2 ta Dl)) ob3 hD
  have hls4 : ∀ l ∈ Ls, (upd H3 a (.ins CS dx (st2 ta Dl))) l = some (.lst []) := fun l h => lst_upd ob3 (hls l h).1
  have kq4 : ∀ y o, H2 y = some o → y ≠ a → (upd H3 a (.ins CS dx (st2 ta Dl))) y = some o := fun y o h n => by
    rw [upd_ne n]
    exact sm _ _ h
  have kp4 : ∀ y o, H y = some o → y ≠ a → (upd H3 a (.ins CS dx (st2 ta Dl))) y = some o := fun y o h n => by
    rw [upd_ne n]
    exact sm _ _ (kp2 y o h n)
  revert ob4 hD4 hls4 kq4 kp4
  generalize upd H3 a (.ins CS dx (st2 ta Dl)) = H4
  intro ob4 hD4 hls4 kq4 kp4
  refine fun sd hsd => ?_
  have s5 := same_new (o := .dK []) hsd
  have ob5 := s5 _ _ ob4
  refine ⟨_, rfl, a, CS, dx, _, rfl, ob5, SC.cl, SC.nS, (by show 2 < 1000; decide), ?_⟩
  have e6 : putF "seats" (.ref sd) (st2 ta Dl) = stS ta Dl sd := putF_new (show ∀ g ∈ (["tree", "lines"] : List Str), ¬ g = "seats" by decide +kernel)
  rw [e6]
  have nsa : sd ≠ a := fun e => by
    rw [e, ob4] at hsd
    exact nomatch hsd
  have free : ∀ l, H2 l = none → l ≠ a → H l = none := fun l h n => by
    cases e : H l with
    | none => rfl
    | some o =>
      rw [kp2 l o e n] at h
      exact nomatch h
  have fs2 : ∀ l, H4 l = none → l ≠ a → H2 l = none := fun l h n => by
    cases e : H2 l with
    | none => rfl
    | some o =>
      rw [kq4 l o e n] at h
      exact nomatch h
  have laD : ∀ l ∈ Ls, l ≠ a := fun l h e => by
    have := (hls l h).2
    rw [e, ob2] at this
    exact nomatch this
  obtain ⟨nd1, nd2⟩ := List.nodup_cons.mp hnd
  have nsL : sd ∉ Ls := fun z => by
    rw [hls4 sd z] at hsd
    exact nomatch hsd
  have nsD : Dl ≠ sd := fun z => by
    rw [← z, hD4] at hsd
    exact nomatch hsd
  have ndS : Dl ∉ sd :: Ls := fun z => by
    rcases List.mem_cons.mp z with z | z
    · exact nsD z
    · exact nd1 z
  have naS : a ∉ sd :: Ls := fun z => by
    rcases List.mem_cons.mp z with z | z
    · exact nsa z.symm
    · exact laD a z rfl
  have hfree : ∀ y ∈ sd :: Ls, H1 y = none := fun y hy => by
    have h2 : H2 y = none := by
      rcases List.mem_cons.mp hy with e | hy
      · rw [e]
        exact fs2 sd hsd nsa
      · exact (hls y hy).2
    cases e : H1 y with
    | none => rfl
    | some o =>
      rw [kq2 y o e (fun z => naS (by rw [← z]; exact hy))] at h2
      exact nomatch h2
  have fin : Same (offS [a] H1) (offS (sd :: Ls) (upd (upd H4 sd (.dK [])) a (.ins CS dx (stS ta Dl sd)))) := fun y o h => by
    obtain ⟨n1, h1'⟩ := offS_some h
    have n1' : y ≠ a := fun z => n1 (List.mem_singleton.mpr z)
    rw [offS_ne (fun z => by rw [hfree y z] at h1'; exact nomatch h1'), upd_ne n1']
    exact s5 _ _ (kq4 y o (kq2 y o h1' n1') n1')
  have hlsF : ∀ l ∈ Ls, (upd (upd H4 sd (.dK [])) a (.ins CS dx (stS ta Dl sd))) l = some (.lst []) := fun l h => lst_upd ob5 (s5 _ _ (hls4 l h))
  have hsdF : (upd (upd H4 sd (.dK [])) a (.ins CS dx (stS ta Dl sd))) sd = some (.dK []) := by
    rw [upd_ne nsa]
    exact upd_same
  refine k _ ta Dl sd Ls ⟨fun y hy => hy, fun y hy => ?_, List.nodup_cons.mpr ⟨nsL, nd2⟩, ⟨dx, by rw [offS_ne naS]; exact upd_same⟩, TO.same fin, (by rw [offS_ne ndS]; exact lst_upd ob5 (s5 _ _ hD4)), by rw [hl, hlen], fun q hq => ?_, hsdF, (fun q e z => nomatch z), (fun q => List.Pairwise.nil)⟩ ⟨TNO.same fin, free Dl hDl nDa⟩ (fun y o h n => ?_) (fun y hy => ?_)
  · rcases List.mem_cons.mp hy with e | hy
    · rw [e, hsdF]
      exact fun z => nomatch z
    · rw [hlsF y hy]
      exact fun z => nomatch z
  · obtain ⟨u, hu⟩ := ad_sub hq
    have hi := idx_lt hu
    have hi2 := u.nodes_pos
    have hj : t.idx q < Ls.length := by rw [hl, hlen]; omega
    exact ⟨_, [], List.getElem?_eq_getElem hj, hlsF _ (List.getElem_mem hj), .nil⟩
  · rw [upd_ne n]
    exact s5 _ _ (kp4 y o h n)
  · cases e : H y with
    | none => rfl
    | some o =>
      have := hfree y hy
      rw [s1 y o e] at this
      exact nomatch this
end
end K27
set_option Elab.async false
set_option linter.all false
set_option maxRecDepth 100000
set_option maxHeartbeats 8000000
namespace L2
open PySem PySem.Spec PyProof.Rows
/-- a loop over enumerate(list) -/
theorem for_enumL {K : PySem.W.Frag} {a : Addr} {xs : List V} {g : TG} {tb : TS} {D : Ends} {σ : L2.St} {H : Hp} (Pv : Nat → L2.St → Hp → Prop) (h0 : Pv 0 σ H) (hq : ∀ i σ H, Pv i σ H → SqL K H a xs)
    (hs : ∀ (i : Nat) (x : V) (T : Addr) (σ : L2.St) (H : Hp), xs[i]? = some x → Pv i σ H → H T = none → g (.ref T) σ (upd H T (.tup [.int (i : Nat), x])) fun σ2 H2 => tb { D with nx := Pv (i + 1), ct := Pv (i + 1), bk := D.nx } σ2 H2) (hd : ∀ σ H, Pv xs.length σ H → D.nx σ H) :
    ∃ W : Nat → Nat → L2.St → Hp → Prop, (∃ m, W 0 m σ H) ∧ ∀ i m σ H, W i m σ H →
      ((Ite K a).stop i H ∧ D.nx σ H) ∨ ((Ite K a).go i H ∧ ∃ N : L2.St → Hp → Prop, (∀ σ' H', N σ' H' → ∃ m', m' < m ∧ W (i + 1) m' σ' H') ∧ ∀ v H', (Ite K a).yld i H v H' → g v σ H' fun σ2 H2 => tb { D with nx := N, ct := N, bk := D.nx } σ2 H2) := by
  refine ⟨fun i m σ H => m = xs.length - i ∧ i ≤ xs.length ∧ Pv i σ H, ⟨xs.length, rfl, Nat.zero_le _, h0⟩, ?_⟩
  rintro i m σ H ⟨rfl, hi, p⟩
  have qx := hq i σ H p
  by_cases hlt : i < xs.length
  · have hx : xs[i]? = some xs[i] := List.getElem?_eq_getElem hlt
    refine .inr ⟨⟨xs, _, qx, hx⟩, Pv (i + 1), fun σ' H' p' => ⟨xs.length - (i + 1), by omega, rfl, hlt, p'⟩, fun v H' y => ?_⟩
    obtain ⟨T, x', rfl, hT, rfl, f1⟩ := y
    exact hs i x' T σ H (f1 xs qx) p hT
  · have e : i = xs.length := by omega
    subst e
    exact .inl ⟨⟨xs, qx, Nat.le_refl _⟩, hd σ H p⟩
end L2
namespace K27
open PySem PySem.Spec PyProof.Rows L2 Dt
theorem shf_dtf {K : PySem.W.Frag} {H : Hp} : ∀ {vs : List V} {t : Dt}, ShF K H vs t → DtF K H vs t
  | _, _, .nil => .nil
  | _, _, .cons h p q => .tup h (shf_dtf p) (shf_dtf q)
theorem shv_dtv {K : PySem.W.Frag} {H : Hp} {v : V} {t : Dt} (h : ShV K H v t) : DtV K H v t := by
  obtain ⟨a, vs, e, h1, h2⟩ := h
  exact .inr ⟨a, vs, e, h1, shf_dtf h2⟩
theorem first_at {n : Int} : ∀ {l : List Int}, n ∈ l → ∃ j : Nat, l[j]? = some n ∧ ∀ i : Nat, i < j → l[i]? ≠ some n
  | y :: l, h => by
    by_cases e : y = n
    · exact ⟨0, by rw [e]; rfl, fun i hi => absurd hi (Nat.not_lt_zero _)⟩
    · obtain ⟨j, h1, h2⟩ := first_at ((List.mem_cons.mp h).resolve_left fun z => e z.symm)
      refine ⟨j + 1, by simpa using h1, fun i hi => ?_⟩
      cases i with
      | zero =>
        intro z
        exact e (Option.some.inj z)
      | succ i => simpa using h2 i (by omega)
/-- which packets are seated -/
structure SeatN (T : Dt) (L : Lns) (kv : List (Key × V)) (Dn : Nat → Int → Prop) : Prop where
  to : ∀ n i p, (lv T)[i]? = some p → n ∈ its (L p) → Dn i n → valV kv (Sum.inl n : Key) = some (.int (i : Nat))
  fr : ∀ k v, valV kv k = some v → ∃ n i p, k = Sum.inl n ∧ v = .int (i : Nat) ∧ (lv T)[i]? = some p ∧ n ∈ its (L p)
theorem SeatN.imp {T : Dt} {L : Lns} {kv : List (Key × V)} {D1 D2 : Nat → Int → Prop} (s : SeatN T L kv D1) (h : ∀ n i p, (lv T)[i]? = some p → n ∈ its (L p) → D2 i n → D1 i n) : SeatN T L kv D2 :=
  ⟨fun n i p h1 h2 h3 => s.to n i p h1 h2 (h n i p h1 h2 h3), s.fr⟩
theorem SeatN.put {T : Dt} {L : Lns} {kv kv0 : List (Key × V)} {Dn : Nat → Int → Prop} (s : SeatN T L kv Dn) (s0 : Seat T L kv0) {n : Int} {i : Nat} {p : Ad} (hi : (lv T)[i]? = some p) (hn : n ∈ its (L p)) : SeatN T L (putK kv (Sum.inl n : Key) (.int (i : Nat))) fun i' n' => Dn i' n' ∨ (i' = i ∧ n' = n) := by
  refine ⟨fun n' i' p' h1 h2 h3 => ?_, fun k v h => ?_⟩
  · rw [valV_put]
    by_cases e : n' = n
    · subst e
      rw [if_pos rfl]
      have a := s0.to n' i p hi hn
      rw [s0.to n' i' p' h1 h2] at a
      exact a.symm
    · rw [if_neg (fun z => e (Sum.inl.inj z))]
      exact s.to n' i' p' h1 h2 (h3.resolve_right fun z => e z.2)
  · rw [valV_put] at h
    by_cases e : k = Sum.inl n
    · rw [if_pos e] at h
      exact ⟨n, i, p, e, (Option.some.inj h).symm, hi, hn⟩
    · rw [if_neg e] at h
      exact s.fr k v h
structure LnsOK (T : Dt) (L : Lns) (kv : List (Key × V)) : Prop where
  rk : ∀ q, RkOK (L q)
  pw : ∀ q, Asc1 (L q)
  se : Seat T L kv
  sz : ∀ q, (L q).length ≤ 100
  gd : T.good 1 = true
  ht : T.ht < 20
  sm : T.size ≤ 100000
def spWith (K : PySem.W.Frag) (C CS : Addr) : Sp := fun vs H Q _ => ∃ (la : Addr) (fv : V) (Ls : List Addr) (T : Dt) (L : Lns) (kv : List (Key × V)), vs = [fv, .ref la] ∧ ShV K H fv T ∧ T.nodes ≤ 1000 ∧ H la = some (.lst (Ls.map V.ref)) ∧ Ls.length = T.nodes ∧ (∀ q ∈ ad T, ∃ l xs, Ls[T.idx q]? = some l ∧ H l = some (.lst xs) ∧ DpAll K H xs ((L q).map enD)) ∧ LnsOK T L kv ∧
  ∀ H' a ta la' sd Ls' kv', Same H H' → StE K C CS (sd :: Ls') H' a ta la' sd Ls' T L kv' → Seat T L kv' → kv'.length ≤ 100000 → (∀ y ∈ sd :: Ls', H y = none) → H a = none → TN K H (offS (sd :: Ls') H') C ta T ∧ H la' = none → Q (.ref a) H'
def spTwin (K : PySem.W.Frag) (C CS : Addr) : Sp := fun vs H Q _ => ∃ (a ta la sd : Addr) (S Ls : List Addr) (T : Dt) (L : Lns) (kv : List (Key × V)), vs = [.ref a] ∧ StE K C CS S H a ta la sd Ls T L kv ∧ LnsOK T L kv ∧
  ∀ H' a' ta' la' sd' Ls' kv', Same H H' → StE K C CS (sd' :: Ls') H' a' ta' la' sd' Ls' T L kv' → Seat T L kv' → kv'.length ≤ 100000 → (∀ y ∈ sd' :: Ls', H y = none) → H a' = none → TN K H (offS (sd' :: Ls') H') C ta' T ∧ H la' = none → Q (.ref a') H'
section
variable {P : Program} {w : World} {K : PySem.W.Frag} {mg : Str → Option Value} {base : Heap} {C CS U fG : Addr}
end
end K27
set_option Elab.async false
set_option linter.all false
set_option maxRecDepth 100000
set_option maxHeartbeats 8000000
namespace K27
open PySem PySem.Spec PyProof.Rows L2 Dt
theorem call_list_ofK {X : Cx} {K : PySem.W.Frag} (hK : X.K = K) : CallR X (.type "list") fun xs H Q => ∃ p ys, xs = [V.ref p] ∧ (SqL K H p ys ∨ SqT K H p ys) ∧ ∀ (l : Addr), H l = none → Q (V.ref l) (upd H l (HO.lst ys)) := by
  subst hK
  exact call_list_of
theorem stS_ne {ta la sd : Addr} {fv : V} {LL : Nat → Addr} (h : stS ta la sd = stF fv LL) : False := by
  exact absurd (show (3 : Nat) = 11 from congrArg List.length h) (by decide)
theorem tree_ne {K : PySem.W.Frag} {H : Hp} {C CS a ta la sd dx : Addr} {T : Dt} (t : Tree K H C ta T) (h : H a = some (.ins CS dx (stS ta la sd))) : a ≠ ta := fun e => by
  obtain ⟨dx', fv, LL, SS, h1, _⟩ := t
  have h2 := h1.ob
  rw [← e, h] at h2
  injection h2 with h2
  injection h2 with _ _ h2
  exact stS_ne h2
theorem lf_le (T : Dt) : T.lf ≤ T.nodes := by
  rw [← ad_len]
  exact List.length_filter_le ..
section
variable {P : Program} {w : World} {K : PySem.W.Frag} {mg : Str → Option Value} {base : Heap} {C CS U fG : Addr}
theorem ok_with {fS : Addr} {fdS : FuncData} (D : DefAt K mg "standing_with" s_standing_with ["form", "lines"]) (T0 : Txt K mg) (hE : mg "enumerate" = none) (hLi : mg "list" = none) (SC : StCl K CS) (TC : TCl K mg C fG) (MS : Mk K CS fS) (gS : mg "Standing" = some (.ref CS)) (bS : Binds K fdS ["self", "form"] []) (FS : FnOk P w K mg base (L2.CX P w) 24 fS fdS ["self", "form"] (spMade K C CS U)) :
    CalX P w K mg base (L2.CX P w) 26 "standing_with" ["form", "lines"] (spWith K C CS) := by
  refine D.okX sc_standing_with (fun vs H Q E h => ?_) (fun f cdv A outer s H vs Q E hr h => ?_)
  · obtain ⟨la, fv, Ls, T, L, kv, rfl, _⟩ := h
    rfl
  obtain ⟨la, fv, Ls, T, L, kv, rfl, hfv, hno, hla, hLl, hli, ok, q⟩ := h
  have hu := hu_of hr
  refine ⟨_, (pss_cons (ps_set (i := 2) sc_standing_with.nd rfl (.inl rfl) (pe_make MS FS (hr.mono (by decide)) rfl gS bS .nil (passes_call (takes_of rfl rfl rfl rfl) (fun _ _ _ _ h => h)) (pa_cons (pv 0) pa_nil))) 
    (pss_cons (ps_fld (pv 2) (pe_lc (own := [("line", 3)]) (g := gName 3) (tt := tYes) (by rfl) sc_standing_with.nd (pi_list (pv 1)) (blkOk_by (own := [("line", 3)]) (N := N_standing_with) (sc := defScope s_standing_with) (by decide +kernel)) (fun _ _ _ _ _ => pg_name (i := 3) sc_standing_with.nd rfl (Or.inl rfl)) (fun _ _ _ _ _ => pts_nil) (fun _ _ _ _ _ => by exact (pe_callTy (call_list_ofK (K := K) (by exact rfl)) (by rfl) hLi (by decide +kernel) (pa_cons (pv 3) pa_nil)))) rfl) 
    (pss_cons (ps_for (passes_of rfl) rfl (pi_enum (by rfl) hE (pa_cons (pe_fld (pe_fld (pv 2) rfl) rfl) pa_nil)) (pg_tup (by rfl) (pgs_cons (pg_name (i := 4) sc_standing_with.nd rfl (Or.inl rfl)) (pgs_cons (pg_name (i := 5) sc_standing_with.nd rfl (Or.inl rfl)) pgs_nil))) 
      (pss_one (ps_for (passes_of rfl) rfl (pi_list (pe_ix ix_list (pe_fld (pv 2) rfl) (pv 5) (fun _ _ => rfl))) (pg_name (i := 6) sc_standing_with.nd rfl (Or.inl rfl)) 
        (pss_one (ps_dput hu (pe_fld (pv 2) rfl) (pe_ix ix_tup (pv 6) pe_int (fun _ _ => rfl)) (pv 4) rfl))))) 
    (pss_one (ps_ret (pv 2)))))), ?_⟩
  refine ⟨_, rfl, fun a dx ha hdx hne => ?_⟩
  have s0 : Same H (upd (upd H dx (.own a)) a (.ins CS dx [])) := fun y o h => by rw [upd_ne (ne_of_none h ha), upd_ne (ne_of_none h hdx)]; exact h
  refine ⟨a, dx, fv, T, rfl, upd_same, same_dtv s0 (shv_dtv hfv), ok.sm, fun _ => ⟨ok.ht, hno, fun H1 ta la1 sd Ls1 st1 tn1 fr1 fresh1 => ⟨rfl, ?_⟩⟩, fun bad => absurd (ok.gd.symm.trans bad) (by decide)⟩
  have s1 : Same H H1 := fun y o h => fr1 y o (s0 y o h) (ne_of_none h ha)
  have hsd0 : H sd = none := by
    cases e : H sd with
    | none => rfl
    | some o =>
      have := fresh1 sd (List.mem_cons_self ..)
      rw [s0 _ _ e] at this
      exact nomatch this
  obtain ⟨dx1, hob1'⟩ := st1.ob
  have hob1 := (offS_some hob1').2
  have naS1 := (offS_some hob1').1
  refine ⟨_, rfl, la, rfl, ⟨_, SqL.of (s1 _ _ hla)⟩, fun Dl hDl => ?_⟩
  refine lc_list (K := K) (a := la) (xs := Ls.map V.ref) (fun j H' => Same H1 H' ∧ ∃ Ms : List Addr, H' Dl = some (.lst (Ms.map V.ref)) ∧ Ms.length = j ∧ (∀ (i : Nat) (m : Addr), Ms[i]? = some m → ∃ l xs, Ls[i]? = some l ∧ H l = some (.lst xs) ∧ H' m = some (.lst xs) ∧ H1 m = none) ∧ (Dl :: Ms).Nodup) ⟨same_new hDl, [], upd_same, rfl, (fun i m z => by simp at z), by simp⟩ (fun j H' _ hh => SqL.of (hh.1 _ _ (s1 _ _ hla))) ?_ ?_
  · rintro j x H' hj ⟨sm, Ms, hD, hl, hM, hnd⟩
    rw [List.getElem?_map] at hj
    obtain ⟨l, hlj, rfl⟩ := Option.map_eq_some_iff.mp hj
    have hjl := (List.getElem?_eq_some_iff.mp hlj).1
    have hjl2 := hjl
    rw [hLl, ← ad_len] at hjl
    obtain ⟨l', xs, g1, g2, g3⟩ := hli _ (List.getElem_mem hjl)
    rw [idx_of (List.getElem?_eq_getElem hjl), hlj] at g1
    obtain rfl := Option.some.inj g1
    have hl1 := s1 _ _ g2
    refine ⟨rfl, _, rfl, l, _, rfl, .inl (SqL.of (sm _ _ hl1)), fun p hp => ?_⟩
    have npD : p ≠ Dl := fun e => by
      rw [e, hD] at hp
      exact nomatch hp
    obtain ⟨nd1, nd2⟩ := List.nodup_cons.mp hnd
    have npM : p ∉ Ms := fun z => by
      obtain ⟨i, hi⟩ := List.mem_iff_getElem?.mp z
      obtain ⟨_, xs', _, _, z2, _⟩ := hM i p hi
      rw [z2] at hp
      exact nomatch hp
    refine ⟨Ms.map V.ref, (same_new hp) _ _ hD, small1000 (by rw [List.length_map]; omega), same_mut (sm.trans (same_new hp)) hDl, Ms ++ [p], by rw [upd_same, List.map_append]; rfl, by rw [List.length_append]; show Ms.length + 1 = j + 1; omega, fun i m hm => ?_, ?_⟩
    · by_cases cc : i < Ms.length
      · rw [List.getElem?_append_left cc] at hm
        obtain ⟨l2, xs2, z1, z2, z3, z4⟩ := hM i m hm
        refine ⟨l2, xs2, z1, z2, ?_, z4⟩
        rw [upd_ne (fun e => nd1 (by rw [← e]; exact List.mem_of_getElem? hm))]
        exact (same_new hp) _ _ z3
      · have hi := (List.getElem?_eq_some_iff.mp hm).1
        rw [List.length_append] at hi
        have hi2 : i < Ms.length + 1 := hi
        obtain rfl : i = Ms.length := by omega
        rw [List.getElem?_append_right (Nat.le_refl _), Nat.sub_self] at hm
        obtain rfl := Option.some.inj hm
        refine ⟨l, xs, by rw [hl]; exact hlj, g2, ?_, sm.free hp⟩
        rw [upd_ne npD]
        exact upd_same
    · refine List.nodup_cons.mpr ⟨fun z => ?_, List.nodup_append.mpr ⟨nd2, by simp, fun x hx y hy e => ?_⟩⟩
      · rcases List.mem_append.mp z with z | z
        · exact nd1 z
        · exact npD (List.mem_singleton.mp z).symm
      · rw [List.mem_singleton.mp hy] at e
        exact npM (e ▸ hx)
  rintro H2 ⟨s2, Ms, hD, hMl, hM, hnd⟩
  rw [List.length_map, hLl] at hMl
  obtain ⟨nd1, nd2⟩ := List.nodup_cons.mp hnd
  have hob2 := s2 _ _ hob1
  refine ⟨_, rfl, a, CS, dx1, _, rfl, hob2, SC.cl, SC.nL, (by show 3 < 1000; decide), ?_⟩
  have ef : putF "lines" (.ref Dl) (stS ta la1 sd) = stS ta Dl sd := by rfl
  rw [ef]
  have hMn : ∀ m ∈ Ms, H1 m = none := fun m hm => by
    obtain ⟨i, hi⟩ := List.mem_iff_getElem?.mp hm
    obtain ⟨_, _, _, _, _, z⟩ := hM i m hi
    exact z
  have hsd2 := s2 _ _ st1.se
  have nsa : sd ≠ a := fun e => naS1 (by rw [← e]; exact List.mem_cons_self ..)
  have nsM : sd ∉ Ms := fun z => by
    have := hMn sd z
    rw [st1.se] at this
    exact nomatch this
  have naM : a ∉ Ms := fun z => by
    have := hMn a z
    rw [hob1] at this
    exact nomatch this
  have naS : a ∉ sd :: Ms := fun z => (List.mem_cons.mp z).elim (fun e => nsa e.symm) naM
  have nDsd : Dl ≠ sd := fun e => by
    rw [e, st1.se] at hDl
    exact nomatch hDl
  have nDS : Dl ∉ sd :: Ms := fun z => (List.mem_cons.mp z).elim nDsd nd1
  have nDa : Dl ≠ a := fun e => by
    rw [e, hob1] at hDl
    exact nomatch hDl
  have gT : Same (offS [a] (offS (sd :: Ls1) H1)) (offS (sd :: Ms) (upd H2 a (.ins CS dx1 (stS ta Dl sd)))) := fun y o h => by
    obtain ⟨n1, h1'⟩ := offS_some h
    obtain ⟨n2, h2'⟩ := offS_some h1'
    rw [offS_ne (fun z => ?_), upd_ne (fun z => n1 (List.mem_singleton.mpr z))]
    · exact s2 _ _ h2'
    · rcases List.mem_cons.mp z with z | z
      · exact n2 (by rw [z]; exact List.mem_cons_self ..)
      · rw [hMn y z] at h2'
        exact nomatch h2'
  have TO := ((st1.tr.off hob1' (tree_ne st1.tr hob1')).same gT)
  have tn3 := (((tn1.1.from (fun y e => s0.free e)).off hob1' (tree_ne st1.tr hob1')).same gT)
  have gH : Same H (offS (sd :: Ms) (upd H2 a (.ins CS dx1 (stS ta Dl sd)))) := fun y o h => by
    rw [offS_ne (fun z => ?_), upd_ne (ne_of_none h ha)]
    · exact s2 _ _ (s1 _ _ h)
    · rcases List.mem_cons.mp z with z | z
      · rw [z, hsd0] at h
        exact nomatch h
      · have := hMn y z
        rw [s1 _ _ h] at this
        exact nomatch this
  have hMH : ∀ (i : Nat) (m : Addr), Ms[i]? = some m → ∃ l xs, Ls[i]? = some l ∧ H l = some (.lst xs) ∧ (upd H2 a (.ins CS dx1 (stS ta Dl sd))) m = some (.lst xs) := fun i m hm => by
    obtain ⟨l, xs, z1, z2, z3, _⟩ := hM i m hm
    refine ⟨l, xs, z1, z2, ?_⟩
    rw [upd_ne (fun e => naM (by rw [← e]; exact List.mem_of_getElem? hm))]
    exact z3
  have st3 : StE K C CS (sd :: Ms) (upd H2 a (.ins CS dx1 (stS ta Dl sd))) a ta Dl sd Ms T L [] := by
    refine ⟨fun y hy => hy, fun y hy => ?_, List.nodup_cons.mpr ⟨nsM, nd2⟩, ⟨dx1, by rw [offS_ne naS]; exact upd_same⟩, TO, (by rw [offS_ne nDS, upd_ne nDa]; exact hD), hMl, fun q hq => ?_, (by rw [upd_ne nsa]; exact hsd2), ok.rk, ok.pw⟩
    · rcases List.mem_cons.mp hy with e | hy
      · rw [e, upd_ne nsa, hsd2]
        exact fun z => nomatch z
      · obtain ⟨i, hi⟩ := List.mem_iff_getElem?.mp hy
        obtain ⟨_, _, _, _, z⟩ := hMH i y hi
        rw [z]
        exact fun z => nomatch z
    · obtain ⟨l, xs, z1, z2, z3⟩ := hli q hq
      have hil := (List.getElem?_eq_some_iff.mp z1).1
      have hmi : Ms[T.idx q]? = some (Ms[T.idx q]'(by rw [hMl, ← hLl]; exact hil)) := List.getElem?_eq_getElem _
      obtain ⟨l', xs', y1, y2, y3⟩ := hMH _ _ hmi
      rw [z1] at y1
      obtain rfl := Option.some.inj y1
      rw [z2] at y2
      injection y2 with y2
      injection y2 with y2
      subst y2
      exact ⟨_, xs, hmi, y3, dps_same gH z3⟩
  have s3 : Same H (upd H2 a (.ins CS dx1 (stS ta Dl sd))) := gH.trans offS_same
  revert st3 s3 tn3
  generalize upd H2 a (.ins CS dx1 (stS ta Dl sd)) = H3
  intro tn3 st3 s3
  have fin : ∀ H' kv', GoS [sd] H3 H' → StE K C CS (sd :: Ms) H' a ta Dl sd Ms T L kv' → SeatN T L kv' (fun i _ => i < T.lf) → kv'.length ≤ 100000 → Q (.ref a) H' := fun H' kv' g st' se hl => by
    refine q H' a ta Dl sd Ms kv' (fun y o h => g.at (s3 _ _ h) fun z => ?_) st' ⟨fun n i p h1 h2 => se.to n i p h1 h2 ?_, se.fr, ok.se.nd⟩ hl (fun y hy => ?_) ha ⟨tn3.same (g.wide fun y hy => by rw [List.mem_singleton.mp hy]; exact List.mem_cons_self ..).s, s1.free hDl⟩
    · rw [List.mem_singleton.mp z, hsd0] at h
      exact nomatch h
    · exact (List.getElem?_eq_some_iff.mp h1).1
    · rcases List.mem_cons.mp hy with e | hy
      · rw [e]
        exact hsd0
      · exact s1.free (hMn y hy)
  obtain ⟨dx3, hob3'⟩ := st3.ob
  have hob3 := (offS_some hob3').2
  obtain ⟨dy, fv', LL, SS, h1, h2, h3, h4⟩ := st3.tr
  have hS8 : (SS 8).length = T.lf := h2.lenL
  have gM : ∀ H', GoS [sd] H3 H' → Same (offS (sd :: Ms) H3) (offS (sd :: Ms) H') := fun H' g => (g.wide fun y hy => by rw [List.mem_singleton.mp hy]; exact List.mem_cons_self ..).s
  refine ⟨_, rfl, a, CS, dx3, _, _, rfl, hob3, SC.cl, SC.nT, rfl, ta, C, dy, _, _, rfl, (offS_some h1.ob).2, TC.cl, TC.n8, stF_8 _ _, LL 8, SS 8, rfl, SqL.of (offS_some (h1.ls 8 (by decide))).2, ?_⟩
  refine for_enumL (K := K) (a := LL 8) (xs := SS 8) (fun i σ H' => ∃ o3 o4 o5 o6 kv', σ = [some fv, some (.ref la), some (.ref a), o3, o4, o5, o6] ∧ GoS [sd] H3 H' ∧ StE K C CS (sd :: Ms) H' a ta Dl sd Ms T L kv' ∧ SeatN T L kv' (fun i' _ => i' < i) ∧ kv'.length ≤ 100 * i)
    ⟨_, _, _, _, [], rfl, GoS.refl, st3, ⟨fun n i p _ _ h => absurd h (Nat.not_lt_zero _), fun k v h => nomatch h⟩, Nat.zero_le _⟩ ?_ ?_ ?_
  · rintro i σ H' ⟨o3, o4, o5, o6, kv', rfl, g, _⟩
    exact SqL.of ((gM H' g).trans offS_same _ _ (h1.ls 8 (by decide)))
  · rintro i x T1 σ H' hx ⟨o3, o4, o5, o6, kv', rfl, g, st', se, hkl⟩ hT1
    have hp8 := h2 8 (by decide)
    have hil := (List.getElem?_eq_some_iff.mp hx).1
    rw [hS8] at hil
    have hpl : (lv T)[i]? = some ((lv T)[i]'hil) := List.getElem?_eq_getElem hil
    generalize (lv T)[i]'hil = p at hpl
    obtain ⟨v8, e8, ev8⟩ := Paired.at hp8 (show (aof 8 T)[i]? = some p from hpl)
    rw [hx] at e8
    obtain rfl := Option.some.inj e8
    obtain rfl : x = .int (T.idx p : Nat) := ev8
    have hpv := List.mem_of_getElem? hpl
    have hT3 : (upd H' T1 (.tup [.int (i : Nat), .int (T.idx p : Nat)])) T1 = some (.tup [.int (i : Nat), .int (T.idx p : Nat)]) := upd_same
    have st4 := st'.same (same_new (o := .tup [.int (i : Nat), .int (T.idx p : Nat)]) hT1)
    have g4 := g.new (v := .tup [.int (i : Nat), .int (T.idx p : Nat)]) hT1
    revert hT3 st4 g4
    generalize upd H' T1 (.tup [.int (i : Nat), .int (T.idx p : Nat)]) = H4
    intro hT3 st4 g4
    refine ⟨T1, _, rfl, SqT.of hT3, rfl, ?_⟩
    refine ⟨_, _, rfl, _, _, rfl, rfl, ?_⟩
    obtain ⟨m, xs, k1, k2, k3⟩ := st4.li _ (lv_ad hpv)
    have hxl := dps_len k3
    rw [List.length_map] at hxl
    have hsz := ok.sz p
    obtain ⟨dx4, hob4⟩ := st4.obj
    have nmsd : m ≠ sd := fun e => nsM (by rw [← e]; exact List.mem_of_getElem? k1)
    refine ⟨_, rfl, a, CS, dx4, _, _, rfl, hob4, SC.cl, SC.nL, rfl, _, rfl, Dl, _, _, _, rfl, rfl, SqL.of st4.lst, (atI_nat (by rw [List.getElem?_map, k1]; rfl)), ?_⟩
    refine ⟨m, rfl, ⟨_, SqL.of k2⟩, ?_⟩
    refine for_list (K := K) (a := m) (xs := xs) (fun j σ H' => ∃ o3 o6 kv', σ = [some fv, some (.ref la), some (.ref a), o3, some (.int (i : Nat)), some (.int (T.idx p : Nat)), o6] ∧ GoS [sd] H4 H' ∧ StE K C CS (sd :: Ms) H' a ta Dl sd Ms T L kv' ∧ SeatN T L kv' (fun i' n => i' < i ∨ (i' = i ∧ n ∈ (its (L p)).take j)) ∧ kv'.length ≤ 100 * i + j)
      ⟨_, _, kv', rfl, GoS.refl, st4, se.imp (fun n i' p' _ _ h => h.elim id fun z => by rw [List.take_zero] at z; exact nomatch z.2), by omega⟩ (fun j σ H' _ ⟨_, _, _, _, g', _⟩ => SqL.of (g'.at k2 fun z => nmsd (List.mem_singleton.mp z))) ?_ ?_
    · rintro j x σ H5 hj ⟨o3, o6, kv5, rfl, g5, st5, se5, hl5⟩
      obtain ⟨e, b, rv, y1, rfl, y2, y3⟩ := dps_en k3 hj
      have hjl := (List.getElem?_eq_some_iff.mp hj).1
      obtain ⟨dx5, hob5⟩ := st5.obj
      have gM5 : Same (offS (sd :: Ms) H4) (offS (sd :: Ms) H5) := (g5.wide fun y hy => by rw [List.mem_singleton.mp hy]; exact List.mem_cons_self ..).s
      have hlf : T.lf ≤ T.nodes := lf_le T
      have hsl := sizeLine_eq
      refine ⟨_, rfl, _, rfl, a, CS, dx5, _, _, rfl, hob5, SC.cl, SC.nS, rfl, _, rfl, b, _, _, _, rfl, rfl, same_sqt offS_same (same_sqt gM5 y2), (show atI [rv, V.int e.2] ((1 : Nat) : Int) = some (V.int e.2) from atI_nat rfl), sd, _, rfl, .inl ⟨kv5, (Sum.inl e.2 : Key), st5.se, rfl, by omega, rfl⟩, ?_⟩
      have hin : e.2 ∈ its (L p) := List.mem_map_of_mem (List.mem_of_getElem? y1)
      refine ⟨o3, _, _, rfl, g5.upd (List.mem_singleton.mpr rfl), st5.setS _, (se5.put ok.se hpl hin).imp (fun n i' p' a1 a2 h => ?_), ?_⟩
      · rcases h with h | ⟨h, h2⟩
        · exact .inl (.inl h)
        · rw [List.take_add_one] at h2
          rcases List.mem_append.mp h2 with h2 | h2
          · exact .inl (.inr ⟨h, h2⟩)
          · refine .inr ⟨h, ?_⟩
            unfold its at h2
            rw [List.getElem?_map, y1] at h2
            simpa using h2
      · have := putK_le kv5 (Sum.inl e.2 : Key) (.int (i : Nat))
        omega
    · rintro σ H5 ⟨o3, o6, kv5, rfl, g5, st5, se5, hl5⟩
      refine ⟨_, _, _, _, kv5, rfl, g4.trans g5, st5, se5.imp (fun n i' p' a1 a2 h => ?_), by omega⟩
      rcases Nat.lt_or_eq_of_le (Nat.lt_succ_iff.mp h) with h | h
      · exact .inl h
      · refine .inr ⟨h, ?_⟩
        subst h
        rw [lv_inj a1 hpl] at a2
        rw [hxl, List.take_of_length_le (by unfold its; rw [List.length_map]; exact Nat.le_refl _)]
        exact a2
  · rintro σ H' ⟨o3, o4, o5, o6, kv', rfl, g, st', se, hkl⟩
    rw [hS8] at se hkl
    have hlf : T.lf ≤ T.nodes := lf_le T
    exact ⟨_, rfl, fin H' kv' g st' se (by omega)⟩
theorem ok_twin {f : Addr} {fd : FuncData} (F : Fun K "twin" "Standing.twin" s_Standing_twin f fd) (SC : StCl K CS) (TC : TCl K mg C fG) (GW : CalX P w K mg base (L2.CX P w) 26 "standing_with" ["form", "lines"] (spWith K C CS)) : FnOk P w K mg base (L2.CX P w) 27 f fd ["self"] (spTwin K C CS) := by
  refine F.okX sc_Standing_twin (fun vs H Q E h => ?_) (fun cdv A outer s H vs Q E hr h => ?_)
  · obtain ⟨a, ta, la, sd, S, Ls, T, L, kv, rfl, _⟩ := h
    rfl
  obtain ⟨a, ta, la, sd, S, Ls, T, L, kv, rfl, st, ok, q⟩ := h
  refine ⟨_, (pss_one (ps_ret (pe_cx GW hr (by decide) rfl (passes_call (takes_of rfl rfl rfl rfl) (fun _ _ _ _ h => h)) (pa_cons (pe_fld (pe_fld (pv 0) rfl) rfl) (pa_cons (pe_fld (pv 0) rfl) pa_nil))))), ?_⟩
  obtain ⟨dx, hob⟩ := st.obj
  obtain ⟨dx', fv, LL, SS, h1, h2, h3, h4⟩ := st.tree
  have rd := st.rd
  exact ⟨_, rfl, a, CS, dx, _, _, rfl, hob, SC.cl, SC.nT, rfl, ta, C, dx', _, _, rfl, h1.ob, TC.cl, TC.nF, stF_form _ _, _, rfl, a, CS, dx, _, _, rfl, hob, SC.cl, SC.nL, rfl, la, fv, Ls, T, L, kv, rfl, h3, h4, st.lst, st.len, rd.li, ok, q⟩
end
end K27
set_option Elab.async false
set_option linter.all false
set_option maxRecDepth 100000
set_option maxHeartbeats 8000000
namespace K27
open PySem PySem.Spec PyProof.Rows L2 Dt
section
variable {P : Program} {w : World} {K : PySem.W.Frag} {mg : Str → Option Value} {base : Heap} {C fG : Addr}
/-! ### meet_in, side_toward -/
theorem take_ad {T : Dt} {p : Ad} (h : p ∈ ad T) (k : Nat) : p.take k ∈ ad T := pre_ad h (List.take_prefix k p)
theorem par_take {T : Dt} {p : Ad} {k : Nat} (h1 : 1 ≤ k) (h2 : k ≤ p.length) : parV T (p.take k) = .int (T.idx (p.take (k - 1)) : Nat) := by
  unfold parV
  have e : p.take k ≠ [] := fun z => by
    have := congrArg List.length z
    rw [List.length_take, show ([] : Ad).length = 0 from rfl] at this
    omega
  rw [if_neg e, List.dropLast_eq_take, List.length_take, List.take_take, show min (min k p.length - 1) k = k - 1 by omega]
def spMeetIn (K : PySem.W.Frag) (C : Addr) : Sp := fun vs H Q E => ∃ a T p q, vs = [.ref a, .int (T.idx p : Nat), .int (T.idx q : Nat)] ∧ Tree K H C a T ∧ p ∈ ad T ∧ q ∈ ad T ∧ Q (.int (T.idx (p.take (lcp p q)) : Nat)) H
theorem ok_meet_in (D : DefAt K mg "meet_in" s_meet_in ["tree", "one", "other"]) (TC : TCl K mg C fG) (GW : CalX P w K mg base CX0 1 "is_within" ["tree", "node", "top"] (spWithin K C)) : CalX P w K mg base CX0 2 "meet_in" ["tree", "one", "other"] (spMeetIn K C) := by
  refine D.ok sc_meet_in (fun vs H Q E h => ?_) (fun f cdv A outer s H vs Q E hr h => ?_)
  · obtain ⟨a, t, p, q, rfl, _⟩ := h
    rfl
  obtain ⟨a, t, p, q, rfl, hTr, hp, hq, qq⟩ := h
  obtain ⟨dx, fv, L, S, hT, hF, hV, h1⟩ := id hTr
  refine ⟨_, pss_cons (ps_set (i := 3) sc_meet_in.nd rfl (.inl rfl) (pv 1))
    (pss_cons (ps_while PassesOwn.never (pt_not (pt_val (pe_c0 GW hr (by decide) rfl (pa_cons (pv 0) (pa_cons (pv 2) (pa_cons (pv 3) pa_nil))))))
      (pss_one (ps_set (i := 3) sc_meet_in.nd rfl (.inl rfl) (pe_ix ix_list (pe_fld (pv 0) rfl) (pv 3) (fun _ _ => rfl)))))
    (pss_one (ps_ret (pv 3)))), ?_⟩
  refine ⟨_, rfl, ?_⟩
  have hl := lcp_le p q
  refine ⟨fun m σ H' => ∃ k, σ = [some (.ref a), some (.int (t.idx p : Nat)), some (.int (t.idx q : Nat)), some (.int (t.idx (p.take k) : Nat))] ∧ H' = H ∧ m = k ∧ lcp p q ≤ k ∧ k ≤ p.length,
    ⟨p.length, p.length, by rw [List.take_length]; rfl, rfl, rfl, hl.1, Nat.le_refl _⟩, ?_⟩
  rintro m σ H' ⟨k, rfl, rfl, rfl, k1, k2⟩
  refine ⟨_, rfl, _, rfl, _, rfl, a, t, p.take m, q, rfl, hTr, take_ad hp m, hq, _, rfl, ?_⟩
  have e : decide (p.take m <+: q) = decide (m ≤ lcp p q) := decide_eq_decide.mpr (lcp_pre p q m k2)
  rw [e]
  by_cases c : m ≤ lcp p q
  · rw [decide_eq_true c]
    refine iteF ?_
    have : m = lcp p q := by omega
    subst this
    exact ⟨_, rfl, qq⟩
  · rw [decide_eq_false c]
    refine iteT ?_
    obtain ⟨v, e1, e2⟩ := hF.node (k := 1) (by decide) (take_ad hp m)
    rw [show v = parV t (p.take m) from e2, par_take (by omega) k2] at e1
    refine ⟨_, fun _ _ z => z, ?_⟩
    exact ⟨_, rfl, a, C, dx, _, _, rfl, hT.ob, TC.cl, TC.n1, stF_1 _ _, _, rfl, L 1, _, _, _, rfl, rfl, SqL.of (hT.ls 1 (by decide)), e1, m - 1, by omega, m - 1, rfl, rfl, rfl, by omega, by omega⟩
def spSide (K : PySem.W.Frag) (C : Addr) : Sp := fun vs H Q E => ∃ a T p q n, vs = [.ref a, .int (T.idx p : Nat), .int (T.idx q : Nat)] ∧ Tree K H C a T ∧ q ∈ ad T ∧ p <+: q ∧ q[p.length]? = some n ∧ Q (.int (n : Nat)) H
theorem ok_side (D : DefAt K mg "side_toward" s_side_toward ["tree", "node", "down"]) (TC : TCl K mg C fG) : CalX P w K mg base CX0 1 "side_toward" ["tree", "node", "down"] (spSide K C) := by
  refine D.ok sc_side_toward (fun vs H Q E h => ?_) (fun f cdv A outer s H vs Q E hr h => ?_)
  · obtain ⟨a, t, p, q, n, rfl, _⟩ := h
    rfl
  obtain ⟨a, t, p, q, n, rfl, hTr, hq, hpq, hn, qq⟩ := h
  obtain ⟨dx, fv, L, S, hT, hF, hV, h1⟩ := id hTr
  have hp := pre_ad hq hpq
  refine ⟨_, pss_cons (ps_set (i := 3) sc_side_toward.nd rfl (.inl rfl) (pv 2))
    (pss_cons (ps_while PassesOwn.never (pt_cmpR op_ne (pe_ix ix_list (pe_fld (pv 0) rfl) (pv 3) (fun _ _ => rfl)) (pv 1) (nomark _))
      (pss_one (ps_set (i := 3) sc_side_toward.nd rfl (.inl rfl) (pe_ix ix_list (pe_fld (pv 0) rfl) (pv 3) (fun _ _ => rfl)))))
    (pss_one (ps_ret (pe_ix ix_list (pe_fld (pv 0) rfl) (pv 3) (fun _ _ => rfl))))), ?_⟩
  refine ⟨_, rfl, ?_⟩
  have hnl := (List.getElem?_eq_some_iff.mp hn).1
  refine ⟨fun m σ H' => ∃ k, σ = [some (.ref a), some (.int (t.idx p : Nat)), some (.int (t.idx q : Nat)), some (.int (t.idx (q.take k) : Nat))] ∧ H' = H ∧ m = k ∧ p.length < k ∧ k ≤ q.length,
    ⟨q.length, q.length, by rw [List.take_length]; rfl, rfl, rfl, hnl, Nat.le_refl _⟩, ?_⟩
  rintro m σ H' ⟨k, rfl, rfl, rfl, k1, k2⟩
  obtain ⟨v, e1, e2⟩ := hF.node (k := 1) (by decide) (take_ad hq m)
  rw [show v = parV t (q.take m) from e2, par_take (by omega) k2] at e1
  refine ⟨_, rfl, a, C, dx, _, _, rfl, hT.ob, TC.cl, TC.n1, stF_1 _ _, _, rfl, L 1, _, _, _, rfl, rfl, SqL.of (hT.ls 1 (by decide)), e1, _, rfl, rfl, _, rfl, ?_⟩
  by_cases c : m = p.length + 1
  · have e : q.take (m - 1) = p := by
      rw [c]
      exact pre_take.mpr hpq
    rw [e]
    rw [show (decide (V.int (t.idx p : Nat) = V.int (t.idx p : Nat))) = true by simp]
    refine iteF ?_
    obtain ⟨v4, e4, e5⟩ := hF.node (k := 4) (by decide) (take_ad hq m)
    have e6 : v4 = .int (n : Nat) := by
      rw [show v4 = .int (sideI (q.take m)) from e5, c, List.take_add_one, hn]
      show V.int (sideI (q.take p.length ++ [n])) = _
      rw [sideI_snoc]
    rw [e6] at e4
    exact ⟨_, rfl, a, C, dx, _, _, rfl, hT.ob, TC.cl, TC.n4, stF_4 _ _, _, rfl, L 4, _, _, _, rfl, rfl, SqL.of (hT.ls 4 (by decide)), e4, qq⟩
  · have e : (decide (V.int (t.idx (q.take (m - 1)) : Nat) = V.int (t.idx p : Nat))) = false := by
      refine decide_eq_false fun z => ?_
      have z2 : t.idx (q.take (m - 1)) = t.idx p := by
        injection z with z
        omega
      have z3 := congrArg List.length (idx_inj (take_ad hq (m - 1)) hp z2)
      rw [List.length_take] at z3
      omega
    rw [e]
    refine iteT ?_
    refine ⟨_, fun _ _ z => z, ?_⟩
    exact ⟨_, rfl, a, C, dx, _, _, rfl, hT.ob, TC.cl, TC.n1, stF_1 _ _, _, rfl, L 1, _, _, _, rfl, rfl, SqL.of (hT.ls 1 (by decide)), e1, m - 1, by omega, m - 1, rfl, rfl, rfl, by omega, by omega⟩
end
end K27
set_option Elab.async false
set_option linter.all false
set_option maxRecDepth 100000
set_option maxHeartbeats 8000000
namespace K27
open PySem PySem.Spec PyProof.Rows L2 Dt
/-! ### may_turn -/
/-- what is asked of may_turn: the pushed queue lies with one of the two beneath where they meet -/
def mayB (p q1 q2 : Ad) : Bool := !decide (q1 = q2) && (decide (q1.take (lcp q1 q2 + 1) <+: p) || decide (q2.take (lcp q1 q2 + 1) <+: p))
def spMay (K : PySem.W.Frag) (C U : Addr) : Sp := fun vs H Q E => ∃ (v x y z : V) (t : Dt) (o o1 o2 : Option Int), vs = [v, x, y, z] ∧ DtV K H v t ∧ t.size ≤ 100000 ∧ (t.good 1 = true → t.ht < 20 ∧ t.nodes ≤ 1000) ∧ NumV K H x o ∧ NumV K H y o1 ∧ NumV K H z o2 ∧
  (t.good 1 = false → ∀ H', Same H H' → Out U "form" H' E) ∧
  (t.good 1 = true → belowB (t.lf : Nat) o = false → ∀ H', Same H H' → Out U "queue" H' E) ∧
  (t.good 1 = true → belowB (t.lf : Nat) o = true → belowB (t.lf : Nat) o1 = false → ∀ H', Same H H' → Out U "one" H' E) ∧
  (t.good 1 = true → belowB (t.lf : Nat) o = true → belowB (t.lf : Nat) o1 = true → belowB (t.lf : Nat) o2 = false → ∀ H', Same H H' → Out U "other" H' E) ∧
  (t.good 1 = true → ∀ (i j k : Nat) p q1 q2, o = some (i : Nat) → o1 = some (j : Nat) → o2 = some (k : Nat) → (lv t)[i]? = some p → (lv t)[j]? = some q1 → (lv t)[k]? = some q2 → ∀ H', Same H H' → Q (.bl (mayB p q1 q2)) H')
theorem num_same {K : PySem.W.Frag} {H H' : Hp} {x : V} {o : Option Int} (e : Same H H') (h : NumV K H x o) : NumV K H' x o := by
  cases o with
  | some i => exact h
  | none =>
    obtain ⟨t, h1, h2⟩ := h
    exact ⟨t, same_kind e h1, h2⟩
/-- two leaves part where they meet -/
theorem lcp_leaf {T : Dt} {p q : Ad} (hp : p ∈ lv T) (hq : q ∈ lv T) (ne : p ≠ q) : lcp p q < p.length ∧ lcp p q < q.length := by
  obtain ⟨h1, h2⟩ := lcp_le p q
  refine ⟨Nat.lt_of_le_of_ne h1 fun e => ?_, Nat.lt_of_le_of_ne h2 fun e => ?_⟩
  · have := (lcp_pre p q p.length (Nat.le_refl _)).mpr (by omega)
    rw [List.take_length] at this
    exact ne (leaf_pre hq hp this)
  · have h3 := (lcp_pre p q (lcp p q) h1).mpr (Nat.le_refl _)
    have h4 : p.take (lcp p q) = q := by
      refine List.IsPrefix.eq_of_length h3 ?_
      rw [List.length_take, Nat.min_eq_left h1, e]
    have h5 : q <+: p := by
      rw [← h4]
      exact List.take_prefix ..
    exact ne (leaf_pre hp hq h5).symm
theorem lcp_take {p q : Ad} : p.take (lcp p q) = q.take (lcp p q) := by
  obtain ⟨h1, h2⟩ := lcp_le p q
  have h3 := (lcp_pre p q (lcp p q) h1).mpr (Nat.le_refl _)
  have := List.prefix_iff_eq_take.mp h3
  rwa [List.length_take, Nat.min_eq_left h1] at this
end K27
set_option Elab.async false
set_option linter.all false
set_option maxRecDepth 100000
set_option maxHeartbeats 8000000
namespace K27
open PySem PySem.Spec PyProof.Rows L2 Dt
section
variable {P : Program} {w : World} {K : PySem.W.Frag} {mg : Str → Option Value} {base : Heap} {C U fG : Addr}
theorem ok_may (D : DefAt K mg "may_turn" s_may_turn ["form", "queue", "one", "other"]) (TC : TCl K mg C fG) (GShapeTree : CalX P w K mg base (L2.CX P w) 23 "shape_tree" ["form", "word"] (spShapeTree K C U)) (GNeedQueue : CalX P w K mg base (L2.CX P w) 4 "need_queue" ["tree", "queue", "word"] (spNeedQueue K C U)) (GMeetIn : CalX P w K mg base CX0 2 "meet_in" ["tree", "one", "other"] (spMeetIn K C)) (GSideToward : CalX P w K mg base CX0 1 "side_toward" ["tree", "node", "down"] (spSide K C)) (GIsWithin : CalX P w K mg base CX0 1 "is_within" ["tree", "node", "top"] (spWithin K C)) :
    CalX P w K mg base (L2.CX P w) 24 "may_turn" ["form", "queue", "one", "other"] (spMay K C U) := by
  refine D.okX sc_may_turn (fun vs H Q E h => ?_) (fun f cdv A outer s H vs Q E hr h => ?_)
  · obtain ⟨v, x, y, z, t, o, o1, o2, rfl, _⟩ := h
    rfl
  obtain ⟨v, x, y, z, t, o, o1, o2, rfl, hv, hz, hg, hx, hy, hz2, q0, q1, q2, q3, q4⟩ := h
  refine ⟨_, (pss_cons (ps_set (i := 4) sc_may_turn.nd rfl (.inl rfl) (pe_cx GShapeTree hr (by decide) rfl (passes_call (takes_of rfl rfl rfl rfl) (fun _ _ _ _ h => h)) (pa_cons (pv 0) (pa_cons pe_str pa_nil)))) 
    (pss_cons (ps_expr (pe_cx GNeedQueue hr (by decide) rfl (passes_call (takes_of rfl rfl rfl rfl) (fun _ _ _ _ h => h)) (pa_cons (pv 4) (pa_cons (pv 1) (pa_cons pe_str pa_nil))))) 
    (pss_cons (ps_expr (pe_cx GNeedQueue hr (by decide) rfl (passes_call (takes_of rfl rfl rfl rfl) (fun _ _ _ _ h => h)) (pa_cons (pv 4) (pa_cons (pv 2) (pa_cons pe_str pa_nil))))) 
    (pss_cons (ps_expr (pe_cx GNeedQueue hr (by decide) rfl (passes_call (takes_of rfl rfl rfl rfl) (fun _ _ _ _ h => h)) (pa_cons (pv 4) (pa_cons (pv 3) (pa_cons pe_str pa_nil))))) 
    (pss_cons (ps_if (pt_cmpR op_eq (pv 2) (pv 3) (nomark _)) 
      (pss_one (ps_ret pe_bl)) pss_nil) 
    (pss_cons (ps_set (i := 5) sc_may_turn.nd rfl (.inl rfl) (pe_ix ix_list (pe_fld (pv 4) rfl) (pv 2) (fun _ _ => rfl))) 
    (pss_cons (ps_set (i := 6) sc_may_turn.nd rfl (.inl rfl) (pe_ix ix_list (pe_fld (pv 4) rfl) (pv 3) (fun _ _ => rfl))) 
    (pss_cons (ps_set (i := 7) sc_may_turn.nd rfl (.inl rfl) (pe_ix ix_list (pe_fld (pv 4) rfl) (pv 1) (fun _ _ => rfl))) 
    (pss_cons (ps_set (i := 8) sc_may_turn.nd rfl (.inl rfl) (pe_c0 GMeetIn hr (by decide) rfl (pa_cons (pv 4) (pa_cons (pv 5) (pa_cons (pv 6) pa_nil))))) 
    (pss_cons (ps_set (i := 9) sc_may_turn.nd rfl (.inl rfl) (pe_ix ix_list (pe_fld (pv 4) rfl) (pv 8) (fun _ _ => rfl))) 
    (pss_one (ps_ret (pe_or (pe_c0 GIsWithin hr (by decide) rfl (pa_cons (pv 4) (pa_cons (pv 7) (pa_cons (pe_ix ix_tup (pv 9) (pe_c0 GSideToward hr (by decide) rfl (pa_cons (pv 4) (pa_cons (pv 8) (pa_cons (pv 5) pa_nil)))) (fun _ _ => rfl)) pa_nil)))) (pe_one (pe_c0 GIsWithin hr (by decide) rfl (pa_cons (pv 4) (pa_cons (pv 7) (pa_cons (pe_ix ix_tup (pv 9) (pe_c0 GSideToward hr (by decide) rfl (pa_cons (pv 4) (pa_cons (pv 8) (pa_cons (pv 6) pa_nil)))) (fun _ _ => rfl)) pa_nil)))))))))))))))))), ?_⟩
  refine ⟨_, rfl, v, t, "form", rfl, hv, hz, fun g => ⟨(hg g).1, (hg g).2, fun a H1 _ s1 _ ha hTr => ?_⟩, fun g H' s => q0 g H' s⟩
  refine ⟨_, rfl, _, rfl, a, x, o, t, "queue", rfl, hTr, num_same s1 hx, fun b1 => ?_, fun b1 => q1 g b1 H1 s1⟩
  refine ⟨_, rfl, _, rfl, a, y, o1, t, "one", rfl, hTr, num_same s1 hy, fun b2 => ?_, fun b2 => q2 g b1 b2 H1 s1⟩
  refine ⟨_, rfl, _, rfl, a, z, o2, t, "other", rfl, hTr, num_same s1 hz2, fun b3 => ?_, fun b3 => q3 g b1 b2 b3 H1 s1⟩
  obtain ⟨i, p, hp, rfl⟩ := below_lv b1
  obtain ⟨j, p1, hp1, rfl⟩ := below_lv b2
  obtain ⟨k, p2, hp2, rfl⟩ := below_lv b3
  obtain rfl : x = .int (i : Nat) := hx
  obtain rfl : y = .int (j : Nat) := hy
  obtain rfl : z = .int (k : Nat) := hz2
  have fin := q4 g i j k p p1 p2 rfl rfl rfl hp hp1 hp2 H1 s1
  refine ⟨_, rfl, _, rfl, rfl, _, rfl, ite2 (fun c => ?_) fun c => ?_⟩
  · have e : j = k := by
      have := of_decide_eq_true c
      injection this with this
      omega
    subst e
    obtain rfl := lv_inj hp1 hp2
    have : mayB p p1 p1 = false := by
      unfold mayB
      rw [decide_eq_true rfl]
      rfl
    rw [this] at fin
    exact fin
  · have ne : p1 ≠ p2 := fun e => c (by
      subst e
      rw [lv_i hp1 hp2]
      exact decide_eq_true rfl)
    have m0 := List.mem_of_getElem? hp
    have m1 := List.mem_of_getElem? hp1
    have m2 := List.mem_of_getElem? hp2
    obtain ⟨l1, l2⟩ := lcp_leaf m1 m2 ne
    have hTr0 := hTr
    obtain ⟨dx, fv, LL, SS, h1, h2, h3, h4⟩ := hTr
    have leaf : ∀ (i : Nat) p, (lv t)[i]? = some p → (SS 8)[i]? = some (.int (t.idx p : Nat)) := fun i p hi => by
      obtain ⟨v8, e8, ev8⟩ := Paired.at (h2 8 (by decide)) (show (aof 8 t)[i]? = some p from hi)
      have ev : v8 = .int (t.idx p : Nat) := ev8
      rw [e8, ev]
    refine ⟨_, rfl, a, C, dx, _, _, rfl, h1.ob, TC.cl, TC.n8, stF_8 _ _, _, rfl, LL 8, _, _, _, rfl, rfl, SqL.of (h1.ls 8 (by decide)), atI_nat (leaf j p1 hp1), ?_⟩
    refine ⟨_, rfl, a, C, dx, _, _, rfl, h1.ob, TC.cl, TC.n8, stF_8 _ _, _, rfl, LL 8, _, _, _, rfl, rfl, SqL.of (h1.ls 8 (by decide)), atI_nat (leaf k p2 hp2), ?_⟩
    refine ⟨_, rfl, a, C, dx, _, _, rfl, h1.ob, TC.cl, TC.n8, stF_8 _ _, _, rfl, LL 8, _, _, _, rfl, rfl, SqL.of (h1.ls 8 (by decide)), atI_nat (leaf i p hp), ?_⟩
    refine ⟨_, rfl, _, rfl, _, rfl, a, t, p1, p2, rfl, hTr0, lv_ad m1, lv_ad m2, ?_⟩
    have htop : p1.take (lcp p1 p2) ∈ ad t := take_ad (lv_ad m1) _
    obtain ⟨v2, e2, u, b2, hu2, rfl, hb2⟩ := h2.node (k := 2) (by decide) htop
    refine ⟨_, rfl, a, C, dx, _, _, rfl, h1.ob, TC.cl, TC.n2, stF_2 _ _, _, rfl, LL 2, _, _, _, rfl, rfl, SqL.of (h1.ls 2 (by decide)), e2, ?_⟩
    have kid : ∀ q : Ad, q ∈ ad t → q.take (lcp p1 p2) = p1.take (lcp p1 p2) → lcp p1 p2 < q.length → ∃ n, q[(p1.take (lcp p1 p2)).length]? = some n ∧ (kidV t (p1.take (lcp p1 p2)) u)[n]? = some (.int (t.idx (q.take (lcp p1 p2 + 1)) : Nat)) := fun q hq e hl => by
      have hlen : (p1.take (lcp p1 p2)).length = lcp p1 p2 := by rw [List.length_take]; omega
      have hqn : q[lcp p1 p2]? = some (q[lcp p1 p2]'hl) := List.getElem?_eq_getElem hl
      have htk : q.take (lcp p1 p2 + 1) = p1.take (lcp p1 p2) ++ [q[lcp p1 p2]'hl] := by rw [List.take_add_one, hqn, e]; rfl
      have hin := take_ad hq (lcp p1 p2 + 1)
      rw [htk] at hin
      obtain ⟨w', hw'⟩ := ad_sub hin
      rw [(sub_app t _ u hu2 _).1] at hw'
      obtain ⟨kd, hk1, _⟩ := sub_len hw'
      have hlt := kid_lt hk1
      refine ⟨_, by rw [hlen]; exact hqn, ?_⟩
      unfold kidV
      rw [List.getElem?_map, List.getElem?_range hlt, htk]
      rfl
    have e12 : p2.take (lcp p1 p2) = p1.take (lcp p1 p2) := lcp_take.symm
    obtain ⟨n1, a1, a2⟩ := kid p1 (lv_ad m1) rfl l1
    obtain ⟨n2, c1, c2⟩ := kid p2 (lv_ad m2) e12 l2
    have em : mayB p p1 p2 = (decide (p1.take (lcp p1 p2 + 1) <+: p) || decide (p2.take (lcp p1 p2 + 1) <+: p)) := by
      unfold mayB
      rw [decide_eq_false ne]
      rfl
    rw [em] at fin
    refine ⟨_, rfl, _, rfl, _, rfl, _, rfl, _, rfl, _, rfl, a, t, p1.take (lcp p1 p2), p1, n1, rfl, hTr0, lv_ad m1, List.take_prefix .., a1, b2, _, _, _, rfl, rfl, hb2, atI_nat a2, a, t, p1.take (lcp p1 p2 + 1), p, rfl, hTr0, take_ad (lv_ad m1) _, lv_ad m0, _, rfl, ?_⟩
    by_cases d1 : p1.take (lcp p1 p2 + 1) <+: p
    · rw [decide_eq_true d1] at fin ⊢
      exact iteT fin
    · rw [decide_eq_false d1] at fin ⊢
      refine iteF ?_
      rw [Bool.false_or] at fin
      exact ⟨_, rfl, _, rfl, _, rfl, _, rfl, _, rfl, _, rfl, a, t, p1.take (lcp p1 p2), p2, n2, rfl, hTr0, lv_ad m2, (by rw [← e12]; exact List.take_prefix ..), c1, b2, _, _, _, rfl, rfl, hb2, atI_nat c2, a, t, p2.take (lcp p1 p2 + 1), p, rfl, hTr0, take_ad (lv_ad m2) _, lv_ad m0, fin⟩
end
end K27
set_option Elab.async false
set_option linter.all false
set_option maxRecDepth 100000
set_option maxHeartbeats 8000000
namespace K27
open PySem PySem.Spec PyProof.Rows L2 Dt
/-! ### the tape -/
def tapeL (ca : Addr) (i b s : Int) : List V := [.ref ca, .int i, .int b, .int s]
def Tape (K : PySem.W.Frag) (H : Hp) (tp ca : Addr) : Prop := ∃ (cs : List Int) (i b s : Int), ca ≠ tp ∧ H tp = some (.lst (tapeL ca i b s)) ∧ H ca = some (.lst (cs.map V.int)) ∧ 0 ≤ i ∧ cs.length ≤ 1000
/-- all but the tape's list stays -/
def Go (tp : Addr) (H H' : Hp) : Prop := Same (del H tp) (del H' tp)
theorem Go.refl {tp : Addr} {H : Hp} : Go tp H H := fun _ _ h => h
theorem Go.trans {tp : Addr} {H H1 H2 : Hp} (a : Go tp H H1) (b : Go tp H1 H2) : Go tp H H2 := fun x o h => b x o (a x o h)
theorem Go.of {tp : Addr} {H H' : Hp} (e : Same H H') : Go tp H H' := fun x o h => by
  by_cases z : x = tp
  · rw [z, del_same] at h
    exact nomatch h
  · rw [del_ne z] at h ⊢
    exact e x o h
theorem off_same {tp : Addr} {H : Hp} : Same (del H tp) H := fun x o h => by
  by_cases z : x = tp
  · rw [z, del_same] at h
    exact nomatch h
  · rw [del_ne z] at h
    exact h
theorem Go.at {tp a : Addr} {H H' : Hp} {o : HO} (g : Go tp H H') (h : H a = some o) (ne : a ≠ tp) : H' a = some o := by
  have := g a o (by rw [del_ne ne]; exact h)
  rw [del_ne ne] at this
  exact this
theorem Tape.same {K : PySem.W.Frag} {H H' : Hp} {tp ca : Addr} (t : Tape K H tp ca) (e : Same H H') : Tape K H' tp ca := by
  obtain ⟨cs, i, b, s, h1, h2, h3, h4⟩ := t
  exact ⟨cs, i, b, s, h1, e _ _ h2, e _ _ h3, h4⟩
theorem Tape.some {K : PySem.W.Frag} {H : Hp} {tp ca : Addr} (t : Tape K H tp ca) : ∃ u, H tp = .some u := by
  obtain ⟨cs, i, b, s, h1, h2, _⟩ := t
  exact ⟨_, h2⟩
theorem Tape.someC {K : PySem.W.Frag} {H : Hp} {tp ca : Addr} (t : Tape K H tp ca) : ∃ u, H ca = .some u := by
  obtain ⟨cs, i, b, s, h1, h2, h3, _⟩ := t
  exact ⟨_, h3⟩
theorem Tape.new {K : PySem.W.Frag} {H : Hp} {tp ca p : Addr} (t : Tape K H tp ca) (h : H p = none) : p ≠ tp := fun z => by
  obtain ⟨u, e⟩ := t.some
  rw [z, e] at h
  exact nomatch h
theorem Tape.newC {K : PySem.W.Frag} {H : Hp} {tp ca p : Addr} (t : Tape K H tp ca) (h : H p = none) : p ≠ ca := fun z => by
  obtain ⟨u, e⟩ := t.someC
  rw [z, e] at h
  exact nomatch h
theorem Tape.mut {K : PySem.W.Frag} {H : Hp} {tp ca p : Addr} {o : HO} (t : Tape K H tp ca) (h : p ≠ tp) (h' : p ≠ ca) : Tape K (upd H p o) tp ca := by
  obtain ⟨cs, i, b, s, h1, h2, h3, h4⟩ := t
  exact ⟨cs, i, b, s, h1, by rw [upd_ne (Ne.symm h)]; exact h2, by rw [upd_ne (Ne.symm h')]; exact h3, h4⟩
/-- from H to H', the tape in both -/
structure Rn (K : PySem.W.Frag) (tp ca : Addr) (H H' : Hp) : Prop where
  a : Tape K H tp ca
  b : Tape K H' tp ca
  g : Go tp H H'
section
variable {K : PySem.W.Frag} {tp ca : Addr} {H H' H1 H2 : Hp}
theorem Rn.refl (t : Tape K H tp ca) : Rn K tp ca H H := ⟨t, t, Go.refl⟩
theorem Rn.trans (r : Rn K tp ca H H1) (s : Rn K tp ca H1 H2) : Rn K tp ca H H2 := ⟨r.a, s.b, r.g.trans s.g⟩
theorem Rn.of (t : Tape K H tp ca) (s : Same H H') : Rn K tp ca H H' := ⟨t, t.same s, Go.of s⟩
theorem Rn.same (r : Rn K tp ca H H1) (s : Same H1 H2) : Rn K tp ca H H2 := r.trans (Rn.of r.b s)
theorem Rn.mut {p : Addr} {o : HO} (r : Rn K tp ca H H') (h : H p = none) : Rn K tp ca H (upd H' p o) := by
  refine ⟨r.a, r.b.mut (r.a.new h) (r.a.newC h), fun x u e => ?_⟩
  have e2 := r.g x u e
  by_cases z : x = tp
  · rw [z, del_same] at e
    exact nomatch e
  · rw [del_ne z] at e e2 ⊢
    rw [upd_ne (ne_of_none e h)]
    exact e2
theorem Rn.at {a : Addr} {o : HO} (r : Rn K tp ca H H') (h : H a = some o) (ne : a ≠ tp) : H' a = some o := r.g.at h ne
theorem Rn.free {p : Addr} (r : Rn K tp ca H H') (h : H' p = none) : H p = none := by
  cases e : H p with
  | none => rfl
  | some o =>
    have ne := r.b.new h
    rw [r.at e ne] at h
    exact nomatch h
theorem Rn.dp {v : V} {d : PyData} (r : Rn K tp ca H H') (h : Dp K (del H tp) v d) : Dp K (del H' tp) v d := dp_same r.g h
theorem Rn.sqt {a : Addr} {xs : List V} (r : Rn K tp ca H H') (h : SqT K (del H tp) a xs) : SqT K (del H' tp) a xs := same_sqt r.g h
end
/-- new data does not rest on the tape -/
theorem DpF.off {K : PySem.W.Frag} {H H' : Hp} {tp ca : Addr} {v : V} {d : PyData} (t : Tape K H tp ca) (f : DpF K H H' v d) : Dp K (del H' tp) v d := f _ fun b u h1 h2 => by
  rw [del_ne (t.new h1)]
  exact h2
theorem dp_on {K : PySem.W.Frag} {H : Hp} {tp : Addr} {v : V} {d : PyData} (h : Dp K (del H tp) v d) : Dp K H v d := dp_same off_same h
theorem mod_natI (z : Int) {n : Nat} (h : 0 < n) : ∃ r : Nat, r < n ∧ z % (n : Int) = (r : Nat) := by
  have h1 : 0 ≤ z % (n : Int) := Int.emod_nonneg _ (by omega)
  have h2 : z % (n : Int) < (n : Int) := Int.emod_lt_of_pos _ (by omega)
  exact ⟨(z % (n : Int)).toNat, by omega, by omega⟩
def spDraw (K : PySem.W.Frag) : Sp := fun vs H Q _ => ∃ (tp ca : Addr) (n : Nat), vs = [.ref tp, .int (n : Nat)] ∧ Tape K H tp ca ∧ 0 < n ∧ n ≤ 536870912 ∧ ∀ H' (r : Nat), r < n → Rn K tp ca H H' → Q (.int (r : Nat)) H'
def tCellS (K : PySem.W.Frag) : TS := fun D σ H => ∃ tp ca n c p, σ = [some (.ref tp), some (.int (n : Int)), c, p] ∧ Tape K H tp ca ∧ ∀ c' H', Tape K H' tp ca → Go tp H H' → D.nx [some (.ref tp), some (.int n), c', p] H'
theorem go_tape {K : PySem.W.Frag} {H : Hp} {tp ca : Addr} {cs : List Int} {i b s : Int} (i' b' s' : Int) (h1 : ca ≠ tp) (h2 : H tp = some (.lst (tapeL ca i b s))) (h3 : H ca = some (.lst (cs.map V.int))) (h4 : 0 ≤ i') (h5 : cs.length ≤ 1000) :
    Tape K (upd H tp (.lst (tapeL ca i' b' s'))) tp ca ∧ Go tp H (upd H tp (.lst (tapeL ca i' b' s'))) := by
  refine ⟨⟨cs, i', b', s', h1, upd_same, by rw [upd_ne h1]; exact h3, h4, h5⟩, fun x o h => ?_⟩
  by_cases z : x = tp
  · rw [z, del_same] at h
    exact nomatch h
  · rw [del_ne z] at h ⊢
    rw [upd_ne z]
    exact h
theorem ixN4 {j : Nat} (h : j < 4) : ixN 4 (j : Int) = some j := by
  unfold ixN
  rw [if_pos (by omega), if_pos (by omega)]
  rfl
section
variable {P : Program} {w : World} {K : PySem.W.Frag} {mg : Str → Option Value} {base : Heap} {C U fG : Addr}
theorem ok_draw (D : DefAt K mg "_law_draw" s_law_draw ["tape", "many"]) (T : Txt K mg) : CalX P w K mg base CX0 1 "_law_draw" ["tape", "many"] (spDraw K) := by
  refine D.ok sc_law_draw (fun vs H Q E h => ?_) (fun f cdv A outer s H vs Q E hr h => ?_)
  · obtain ⟨tp, ca, n, rfl, _⟩ := h
    rfl
  obtain ⟨tp, ca, n, rfl, hT, h0, hn, q⟩ := h
  refine ⟨_, (pss_cons (ps_conv (t' := tCellS K) (ps_if (PW.pt (pw_and (pt_cmpR op_eq (pe_ix ix_list (pv 0) pe_int (fun _ _ => rfl)) pe_int (nomark _)) (pw_and1 (pt_cmpR op_lt (pe_ix ix_list (pv 0) pe_int (fun _ _ => rfl)) (pe_callB call_len_seq (by rfl) T.len PySem.boot_len (pa_cons (pe_ix ix_list (pv 0) pe_int (fun _ _ => rfl)) pa_nil)) (nomark _)))))
      (pss_cons (ps_set (i := 2) sc_law_draw.nd rfl (.inl rfl) (pe_ix ix_list (pe_ix ix_list (pv 0) pe_int (fun _ _ => rfl)) (pe_ix ix_list (pv 0) pe_int (fun _ _ => rfl)) (fun _ _ => rfl)))
      (pss_cons (ps_augS (pv 0) pe_int pg_getL pe_int ip_add set_list)
      (pss_one (ps_if (pt_cmpR op_ge (pv 2) (pe_op op_pow pe_int pe_int) (nomark _))
        (pss_one (ps_asg (pv 2) (pg_sub (pv 0) pe_int set_list)))
        (pss_one (ps_asg (pe_op op_mod (pe_callTy call_int1 (by rfl) T.int boot_int (pa_cons (pe_op op_add (pe_op op_add (pe_op op_mul (pe_ix ix_list (pv 0) pe_int (fun _ _ => rfl)) pe_int) (pe_op op_mul (pv 2) pe_int)) pe_int) pa_nil)) pe_int) (pg_sub (pv 0) pe_int set_list))))))) pss_nil) (by
      rintro D σ H ⟨tp, ca, n, c, p, rfl, ⟨cs, i, b, s, h1, h2, h3, h4, h5⟩, k⟩
      have sx := SqL.of (K := K) h2
      have sc := SqL.of (K := K) h3
      refine ⟨_, rfl, tp, _, 2, .int b, rfl, rfl, sx, rfl, rfl, _, rfl, ?_⟩
      refine ite2 (fun _ => ?_) (fun _ => ?_)
      · refine ⟨_, rfl, tp, _, 1, .int i, rfl, rfl, sx, rfl, _, rfl, tp, _, 0, .ref ca, rfl, rfl, sx, rfl, ca, _, rfl, .inl sc, _, _, rfl, rfl, _, rfl, ?_⟩
        refine ite2 (fun c2 => ?_) (fun c2 => ?_)
        · have c2' : i < ((cs.map V.int).length : Int) := of_decide_eq_true c2
          rw [List.length_map] at c2'
          have hi : i.toNat < cs.length := by omega
          have ei : ((i.toNat : Nat) : Int) = i := by omega
          have e1 : (cs.map V.int)[i.toNat]? = some (.int (cs[i.toNat])) := by rw [List.getElem?_map, List.getElem?_eq_getElem hi]; rfl
          have e2 := atI_nat e1
          rw [ei] at e2
          generalize cs[i.toNat] = z at e2
          refine ⟨_, rfl, tp, _, 0, .ref ca, rfl, rfl, sx, rfl, _, rfl, tp, _, 1, .int i, rfl, rfl, sx, rfl, ca, _, i, .int z, rfl, rfl, sc, e2, ?_⟩
          refine ⟨_, rfl, tp, _, 1, .int i, rfl, rfl, sx, rfl, _, _, rfl, rfl, tp, _, 1, 1, rfl, rfl, h2, ixN4 (j := 1) (by decide), ?_⟩
          have g1 := go_tape (K := K) (i + 1) b s h1 h2 h3 (by omega) h5
          show _
          have u1 : (upd H tp (.lst ((tapeL ca i b s).set 1 (V.int (i + 1))))) = upd H tp (.lst (tapeL ca (i + 1) b s)) := rfl
          rw [u1]
          have k2 : (upd H tp (.lst (tapeL ca (i + 1) b s))) tp = some (.lst (tapeL ca (i + 1) b s)) := upd_same
          have k3 : (upd H tp (.lst (tapeL ca (i + 1) b s))) ca = some (.lst (cs.map V.int)) := by rw [upd_ne h1]; exact h3
          revert g1 k2 k3
          generalize upd H tp (.lst (tapeL ca (i + 1) b s)) = H1
          intro g1 k2 k3
          have sx1 := SqL.of (K := K) k2
          refine ⟨_, rfl, _, _, rfl, rfl, ⟨by decide, by decide, by decide⟩, _, _, rfl, rfl, _, rfl, ?_⟩
          refine ite2 (fun c3 => ?_) (fun c3 => ?_)
          · refine ⟨_, rfl, _, rfl, tp, _, 2, 2, rfl, rfl, k2, ixN4 (j := 2) (by decide), ?_⟩
            have g2 := go_tape (K := K) (i + 1) z s h1 k2 k3 (by omega) h5
            exact k _ _ g2.1 (g1.2.trans g2.2)
          · refine ⟨_, rfl, tp, _, 3, .int s, rfl, rfl, sx1, rfl, _, _, rfl, rfl, .inr ⟨by decide, by decide⟩, _, rfl, _, _, rfl, rfl, .inr ⟨by decide, by decide⟩, _, _, rfl, rfl, _, _, rfl, rfl, .inl ⟨_, rfl, _, _, rfl, rfl, (show (0 : Int) < 2147483563 by decide), ?_⟩⟩
            refine ⟨_, rfl, tp, _, 3, 3, rfl, rfl, k2, ixN4 (j := 3) (by decide), ?_⟩
            have g2 := go_tape (K := K) (i + 1) b ((s * 742938 + z * 4001 + 53) % 2147483563) h1 k2 k3 (by omega) h5
            exact k _ _ g2.1 (g1.2.trans g2.2)
        · exact k _ _ ⟨cs, i, b, s, h1, h2, h3, h4, h5⟩ Go.refl
      · exact k _ _ ⟨cs, i, b, s, h1, h2, h3, h4, h5⟩ Go.refl))
    (pss_cons (ps_if (pt_cmpR op_gt (pe_ix ix_list (pv 0) pe_int (fun _ _ => rfl)) pe_int (nomark _))
      (pss_cons (ps_set (i := 3) sc_law_draw.nd rfl (.inl rfl) (pe_op op_mod (pe_callTy call_int1 (by rfl) T.int boot_int (pa_cons (pe_ix ix_list (pv 0) pe_int (fun _ _ => rfl)) pa_nil)) (pv 1)))
      (pss_cons (ps_asg (pe_op op_fdiv (pe_ix ix_list (pv 0) pe_int (fun _ _ => rfl)) (pv 1)) (pg_sub (pv 0) pe_int set_list))
      (pss_one (ps_ret (pv 3))))) pss_nil)
    (pss_cons (ps_asg (pe_op op_mod (pe_callTy call_int1 (by rfl) T.int boot_int (pa_cons (pe_op op_add (pe_op op_mul (pe_ix ix_list (pv 0) pe_int (fun _ _ => rfl)) pe_int) pe_int) pa_nil)) pe_int) (pg_sub (pv 0) pe_int set_list))
    (pss_one (ps_ret (pe_op op_mod (pe_callTy call_int1 (by rfl) T.int boot_int (pa_cons (pe_op op_fdiv (pe_ix ix_list (pv 0) pe_int (fun _ _ => rfl)) pe_int) pa_nil)) (pv 1))))))), ?_⟩
  refine ⟨tp, ca, n, none, none, rfl, hT, fun c H1 hT1 g1 => ?_⟩
  obtain ⟨cs, i, b, s, h1, h2, h3, h4, h5⟩ := hT1
  have sx := SqL.of (K := K) h2
  have hn0 : (0 : Int) < (n : Nat) := by omega
  refine ⟨_, rfl, tp, _, 2, .int b, rfl, rfl, sx, rfl, _, _, rfl, rfl, _, rfl, ?_⟩
  refine ite2 (fun _ => ?_) (fun _ => ?_)
  · obtain ⟨r, r1, r2⟩ := mod_natI b h0
    refine ⟨_, rfl, tp, _, 2, .int b, rfl, rfl, sx, rfl, .inl ⟨_, rfl, _, rfl, _, _, rfl, rfl, hn0, ?_⟩⟩
    refine ⟨_, rfl, tp, _, 2, .int b, rfl, rfl, sx, rfl, _, rfl, _, _, rfl, rfl, ⟨hn0, by omega⟩, ?_⟩
    refine ⟨_, rfl, tp, _, 2, 2, rfl, rfl, h2, ixN4 (j := 2) (by decide), ?_⟩
    have g2 := go_tape (K := K) i (b / (n : Nat)) s h1 h2 h3 h4 h5
    refine ⟨_, rfl, ?_⟩
    show Q (.int (b % (n : Nat))) _
    rw [r2]
    exact q _ r r1 ⟨hT, g2.1, g1.trans g2.2⟩
  · refine ⟨_, rfl, tp, _, 3, .int s, rfl, rfl, sx, rfl, _, _, rfl, rfl, .inr ⟨by decide, by decide⟩, _, _, rfl, rfl, .inl ⟨_, rfl, _, _, rfl, rfl, (show (0 : Int) < 2147483563 by decide), ?_⟩⟩
    refine ⟨_, rfl, tp, _, 3, 3, rfl, rfl, h2, ixN4 (j := 3) (by decide), ?_⟩
    have g2 := go_tape (K := K) i b ((s * 40014 + 91009) % 2147483563) h1 h2 h3 h4 h5
    obtain ⟨r, r1, r2⟩ := mod_natI ((s * 40014 + 91009) % 2147483563 / 150) h0
    refine ⟨_, rfl, tp, _, 3, .int ((s * 40014 + 91009) % 2147483563), rfl, rfl, SqL.of upd_same, rfl, _, _, rfl, rfl, ⟨by decide, by decide⟩, .inl ⟨_, rfl, _, rfl, _, _, rfl, rfl, hn0, ?_⟩⟩
    show Q (.int ((s * 40014 + 91009) % 2147483563 / 150 % (n : Nat))) _
    rw [r2]
    exact q _ r r1 ⟨hT, g2.1, g1.trans g2.2⟩
end
/-! ### _law_tape -/
def spTape (K : PySem.W.Frag) : Sp := fun vs H Q _ => ∃ (a : Addr) (ns : List Int), vs = [.ref a] ∧ SqL K H a (ns.map V.int) ∧ ns.length ≤ 63 ∧ ∀ H' tp ca, Same H H' → Tape K H' tp ca → H tp = none → Q (.ref tp) H'
section
variable {P : Program} {w : World} {K : PySem.W.Frag} {mg : Str → Option Value} {base : Heap} {C U fG : Addr}
theorem ok_tape (D : DefAt K mg "_law_tape" s_law_tape ["script"]) (T : Txt K mg) (mabs : mg "abs" = none) : CalX P w K mg base CX0 1 "_law_tape" ["script"] (spTape K) := by
  refine D.ok sc_law_tape (fun vs H Q E h => ?_) (fun f cdv A outer s H vs Q E hr h => ?_)
  · obtain ⟨a, ns, rfl, _⟩ := h
    rfl
  obtain ⟨a, ns, rfl, ha, hl, q⟩ := h
  refine ⟨_, (pss_one (ps_ret (pe_lst (pa_cons (pe_lc (own := [("cell", 1)]) (g := gName 1) (tt := tYes) (by rfl) sc_law_tape.nd (pi_list (pv 0)) (blkOk_by (own := [("cell", 1)]) (N := N_law_tape) (sc := defScope s_law_tape) (by decide +kernel)) (fun _ _ _ _ _ => pg_name (i := 1) sc_law_tape.nd rfl (Or.inl rfl)) (fun _ _ _ _ _ => pts_nil) (fun _ _ _ _ _ => by exact (pe_op op_add (pe_op op_mul (pe_callB call_abs (by rfl) mabs (by decide +kernel) (pa_cons (pe_callTy call_int1 (by rfl) T.int boot_int (pa_cons (pv 1) pa_nil)) pa_nil)) pe_int) (pe_callTy call_int1 (by rfl) T.int boot_int (pa_cons (pe_cmpR op_lt (pv 1) pe_int (nomark _)) pa_nil))))) (pa_cons pe_int (pa_cons pe_int (pa_cons pe_int pa_nil))))))), ?_⟩
  refine ⟨_, rfl, a, rfl, ⟨_, ha⟩, fun Dl hDl => lc_list (K := K) (a := a) (xs := ns.map V.int) (fun i H' => Same H H' ∧ ∃ cs : List Int, H' Dl = some (.lst (cs.map V.int)) ∧ cs.length = i) ⟨same_new hDl, [], upd_same, rfl⟩ (fun i H' _ ⟨sm, _⟩ => sm.seq ha) ?_ ?_⟩
  · rintro i x H' hi ⟨sm, cs, hD, hcl⟩
    have hil := (List.getElem?_eq_some_iff.mp hi).1
    rw [List.length_map] at hil
    obtain ⟨c, rfl⟩ : ∃ c, x = V.int c := by
      rw [List.getElem?_map] at hi
      obtain ⟨c, _, e⟩ := Option.map_eq_some_iff.mp hi
      exact ⟨c, e.symm⟩
    refine ⟨rfl, ?_⟩
    refine ⟨_, rfl, .inl ⟨c, rfl, _, rfl, _, _, rfl, rfl, .inr ⟨by decide, by decide⟩, _, rfl, _, _, rfl, rfl, .inr ⟨_, rfl, _, _, rfl, rfl, ?_⟩⟩⟩
    refine ⟨_, hD, small1000 (by rw [List.length_map]; omega), same_mut sm hDl, cs ++ [_], by rw [upd_same, List.map_append]; rfl, by rw [List.length_append]; show cs.length + 1 = i + 1; omega⟩
  · rintro H' ⟨sm, cs, hD, hcl⟩
    rw [List.length_map] at hcl
    refine ⟨(by show 4 ≤ sizeLine; decide), fun tp htp => ?_⟩
    have hne : Dl ≠ tp := fun z => by rw [← z, hD] at htp; exact nomatch htp
    exact q _ tp Dl (sm.trans (same_new htp)) ⟨cs, 0, 0, 27299, hne, upd_same, by rw [upd_ne hne]; exact hD, by omega, by omega⟩ (sm.free htp)
end
theorem Rn.gos {K : PySem.W.Frag} {tp ca : Addr} {H H' : Hp} (r : Rn K tp ca H H') : GoS [tp] H H' := ⟨fun y u h => by
  obtain ⟨h1, h2⟩ := offS_some h
  rw [offS_ne h1]
  exact r.at h2 fun z => h1 (List.mem_singleton.mpr z), fun y h => by
  by_cases z : y = tp
  · obtain ⟨u, hu⟩ := r.b.some
    rw [z, hu]
    exact fun q => nomatch q
  · cases e : H y with
    | none => exact absurd e h
    | some u =>
      rw [r.at e z]
      exact fun q => nomatch q⟩
end K27
set_option Elab.async false
set_option linter.all false
set_option maxRecDepth 100000
set_option maxHeartbeats 8000000
namespace K27
open PySem PySem.Spec PyProof.Rows L2 Dt
/-- data of tuples and what is flat, so deep -/
def plainT : Nat → PyData → Prop
  | 0, _ => False
  | _ + 1, .list _ => False
  | _ + 1, .dict _ => False
  | n + 1, .tuple ds => ds.length ≤ 1000000 ∧ ∀ d ∈ ds, plainT n d
  | _ + 1, .none => True
  | _ + 1, .bool _ => True
  | _ + 1, .int _ => True
  | _ + 1, .str _ => True
def spSame (K : PySem.W.Frag) (n : Nat) : Sp := fun vs H Q _ => ∃ (x y : V) (d : PyData), vs = [x, y] ∧ Dp K H x d ∧ Dp K H y d ∧ plainT n d ∧ ∀ H', Same H H' → Q (.bl true) H'
theorem dps_pair {K : PySem.W.Frag} {H : Hp} {xs ys : List V} {ds : List PyData} (hx : DpAll K H xs ds) (hy : DpAll K H ys ds) {i : Nat} (h : i < ds.length) : ∃ v1 v2 d, xs[i]? = some v1 ∧ ys[i]? = some v2 ∧ ds[i]? = some d ∧ Dp K H v1 d ∧ Dp K H v2 d := by
  have l1 := dps_len hx
  have l2 := dps_len hy
  have e1 : xs[i]? = some (xs[i]'(by omega)) := List.getElem?_eq_getElem (by omega)
  have e2 : ys[i]? = some (ys[i]'(by omega)) := List.getElem?_eq_getElem (by omega)
  obtain ⟨d1, f1, g1⟩ := dps_at hx e1
  obtain ⟨d2, f2, g2⟩ := dps_at hy e2
  rw [f1] at f2
  obtain rfl := Option.some.inj f2
  exact ⟨_, _, d1, e1, e2, f1, g1, g2⟩
section
variable {P : Program} {w : World} {K : PySem.W.Frag} {mg : Str → Option Value} {base : Heap} {C U fG : Addr}
end
end K27
set_option Elab.async false
set_option linter.all false
set_option maxRecDepth 100000
set_option maxHeartbeats 4000000
namespace K27
open PySem PySem.Spec PyProof.Rows L2 Dt
/-! ### written data -/
def DpFs (K : PySem.W.Frag) (H H' : Hp) (vs : List V) (ds : List PyData) : Prop := ∀ H2, (∀ b u, H b = none → H' b = some u → H2 b = some u) → DpAll K H2 vs ds
def DV (K : PySem.W.Frag) (t : TE) (σ : L2.St) (d : PyData) : Prop := ∀ (H : Hp) (Q : VK), (∀ v H', Same H H' → DpF K H H' v d → Q v H') → t σ H Q
def DVs (K : PySem.W.Frag) (t : TA) (σ : L2.St) (ds : List PyData) : Prop := ∀ (H : Hp) (Q : List V → Hp → Prop), (∀ vs H', Same H H' → DpFs K H H' vs ds → Q vs H') → t σ H Q
section
variable {K : PySem.W.Frag} {σ : L2.St}
theorem same_refl {H : Hp} : Same H H := fun _ _ h => h
theorem dvs_nil : DVs K tNil σ [] := fun H Q q => q [] H same_refl fun _ _ => .nil
theorem dvs_cons {te : TE} {ta : TA} {d : PyData} {ds : List PyData} (h : DV K te σ d) (hs : DVs K ta σ ds) : DVs K (tCons te ta) σ (d :: ds) := fun H Q q =>
  h H _ fun v H1 s1 f1 => hs H1 _ fun vs H2 s2 f2 => q (v :: vs) H2 (s1.trans s2) fun H3 hk =>
    .cons (f1 H3 fun b u a1 a2 => hk b u a1 (s2 _ _ a2)) (f2 H3 fun b u a1 a2 => hk b u (s1.free a1) a2)
theorem dv_int {i : Int} : DV K (tC (.int i)) σ (.int i) := fun H Q q => q _ H same_refl fun _ _ => .int i
theorem dv_bl {b : Bool} : DV K (tC (.bl b)) σ (.bool b) := fun H Q q => q _ H same_refl fun _ _ => .bl b
theorem dv_non : DV K (tC .non) σ .none := fun H Q q => q _ H same_refl fun _ _ => .non
theorem dv_str {z : Str} : DV K (tC (.str z)) σ (.str z) := fun H Q q => q _ H same_refl fun _ _ => .str z
theorem dv_vint {k : Nat} {i : Int} (h : σ[k]? = some (some (.int i))) : DV K (tVar k) σ (.int i) := fun H Q q => ⟨_, h, q _ H same_refl fun _ _ => .int i⟩
theorem dv_neg {te : TE} {i j : Int} (h : ∀ H Q, Q (.int i) H → te σ H Q) (e : -i = j) : DV K (tUn (rU fun i => .int (-i)) te) σ (.int j) := fun H Q q => h H _ ⟨i, rfl, by
  show Q (.int (-i)) H
  rw [e]
  exact q _ H same_refl fun _ _ => .int j⟩
theorem dv_sub {te tf : TE} {i k j : Int} (h : ∀ H Q, Q (.int i) H → te σ H Q) (h' : ∀ H Q, Q (.int k) H → tf σ H Q) (e : i - k = j) : DV K (tOp (rI0 fun i j => .int (i - j)) te tf) σ (.int j) := fun H Q q => h H _ (h' H _ ⟨i, k, rfl, rfl, by
  show Q (.int (i - k)) H
  rw [e]
  exact q _ H same_refl fun _ _ => .int j⟩)
theorem dv_tup {ta : TA} {ds : List PyData} (h : DVs K ta σ ds) (hl : ds.length ≤ 1000) : DV K (tTup ta) σ (.tuple ds) := fun H Q q => h H _ fun vs H1 s1 f1 => by
  have hl1 := dps_len (f1 H1 fun _ _ _ e => e)
  have hsl := sizeLine_eq
  refine ⟨by omega, fun p hp => q _ _ (s1.trans (same_new hp)) fun H2 hk => .tup (SqT.of (hk p _ (s1.free hp) upd_same)) (f1 H2 fun b u a1 a2 => hk b u a1 ((same_new hp : Same H1 _) _ _ a2))⟩
theorem dv_lst {ta : TA} {ds : List PyData} (h : DVs K ta σ ds) (hl : ds.length ≤ 1000) : DV K (tLst ta) σ (.list ds) := fun H Q q => h H _ fun vs H1 s1 f1 => by
  have hl1 := dps_len (f1 H1 fun _ _ _ e => e)
  have hsl := sizeLine_eq
  refine ⟨by omega, fun p hp => q _ _ (s1.trans (same_new hp)) fun H2 hk => .lst (SqL.of (hk p _ (s1.free hp) upd_same)) (f1 H2 fun b u a1 a2 => hk b u a1 ((same_new hp : Same H1 _) _ _ a2))⟩
end
/-- a written menu -/
def tMenu (K : PySem.W.Frag) (C : L2.St → Prop) (ds : List PyData) : TE := fun σ H Q => C σ ∧ ∀ p vs H', Same H H' → H p = none → H' p = some (.tup vs) → DpFs K H H' vs ds → Q (.ref p) H'
theorem dv_menu {K : PySem.W.Frag} {ta : TA} {σ : L2.St} {ds : List PyData} {H : Hp} {Q : VK} (h : DVs K ta σ ds) (hl : ds.length ≤ 1000) (q : ∀ p vs H', Same H H' → H p = none → H' p = some (.tup vs) → DpFs K H H' vs ds → Q (.ref p) H') : tTup ta σ H Q := h H _ fun vs H1 s1 f1 => by
  have hl1 := dps_len (f1 H1 fun _ _ _ e => e)
  have hsl := sizeLine_eq
  exact ⟨by omega, fun p hp => q p vs _ (s1.trans (same_new hp)) (s1.free hp) upd_same fun H2 hk => f1 H2 fun b u a1 a2 => hk b u a1 ((same_new hp : Same H1 _) _ _ a2)⟩
/-! ### an item of a menu -/
theorem DpF.rn {K : PySem.W.Frag} {H H1 H2 : Hp} {tp ca : Addr} {v : V} {d : PyData} (f : DpF K H H1 v d) (t : Tape K H tp ca) (r : Rn K tp ca H1 H2) : DpF K H H2 v d := fun H3 hk => f H3 fun b u h1 h2 => hk b u h1 (r.at h2 (t.new h1))
theorem DpF.same {K : PySem.W.Frag} {H H1 H2 : Hp} {v : V} {d : PyData} (f : DpF K H H1 v d) (s : Same H1 H2) : DpF K H H2 v d := fun H3 hk => f H3 fun b u h1 h2 => hk b u h1 (s _ _ h2)
def rLenQ (K : PySem.W.Frag) : List V → Hp → VK → Prop := fun xs H Q => ∃ p ys, xs = [.ref p] ∧ (SqL K H p ys ∨ SqT K H p ys) ∧ Q (.int ys.length) H
theorem menu_read {K : PySem.W.Frag} {σ : L2.St} {H0 H : Hp} {tp ca p : Addr} {i0 im : Nat} {vs : List V} {ds : List PyData} {Q : VK} {r : List V → Hp → VK → Prop} (hr : r = rLenQ K) (h0 : σ[i0]? = some (some (.ref tp))) (hm : σ[im]? = some (some (.ref p))) (hp : H p = some (.tup vs)) (hd : DpFs K H0 H vs ds) (hT0 : Tape K H0 tp ca) (hT : Tape K H tp ca) (hpn : H0 p = none) (hl : 0 < ds.length) (hl2 : ds.length ≤ 1000)
    (q : ∀ H' v d, Rn K tp ca H H' → d ∈ ds → DpF K H0 H' v d → Q v H') : tOp (rIxT K) (tVar im) (tCall (spDraw K) [] E0 (tCons (tVar i0) (tCons (tCB r (tCons (tVar im) tNil)) tNil))) σ H Q := by
  subst hr
  have hlen := dps_len (hd H fun _ _ _ e => e)
  refine ⟨_, hm, _, h0, _, hm, p, vs, rfl, .inr (SqT.of hp), tp, ca, vs.length, rfl, hT, by omega, by omega, fun H1 r hr R1 => ?_⟩
  have hx : vs[r]? = some vs[r] := List.getElem?_eq_getElem hr
  have hdr : ds[r]? = some (ds[r]'(by omega)) := List.getElem?_eq_getElem (by omega)
  refine ⟨p, vs, _, _, rfl, rfl, SqT.of (R1.at hp (hT0.new hpn)), atI_nat hx, q H1 _ _ R1 (List.mem_of_getElem? hdr) fun H3 hk => ?_⟩
  obtain ⟨d, hd1, hd2⟩ := dps_at (hd H3 fun b u h1 h2 => hk b u h1 (R1.at h2 (hT0.new h1))) hx
  rw [hdr] at hd1
  rw [Option.some.inj hd1]
  exact hd2
/-! ### powers of two -/
theorem shl_of {k n : Int} (hk : 0 ≤ k ∧ k ≤ 1000000) (e : (1 : Int) * 2 ^ k.toNat = n) : ∀ (σ : L2.St) (H : Hp) (Q : VK), tC (.int n) σ H Q → tOp (rI CPow fun i j => .int (i * 2 ^ j.toNat)) (tC (.int 1)) (tC (.int k)) σ H Q := by
  rintro σ H Q q
  refine ⟨1, k, rfl, rfl, ⟨hk.1, hk.2, by decide⟩, ?_⟩
  show Q (.int ((1 : Int) * 2 ^ k.toNat)) H
  rw [e]
  exact q
def edgeI : Int := 1606938044258990275541962092341162602522202993782792835301375
/-! ### plain data, by a test -/
def plainB : Nat → PyData → Bool
  | 0, _ => false
  | _ + 1, .none => true
  | _ + 1, .bool _ => true
  | _ + 1, .int _ => true
  | _ + 1, .str _ => true
  | n + 1, .tuple ds => decide (ds.length ≤ 1000) && ds.all (plainB n)
  | n + 1, .list ds => decide (ds.length ≤ 1000) && ds.all (plainB n)
  | _, _ => false
theorem plainB_ok : ∀ (n : Nat) (d : PyData), plainB n d = true → plainN n d
  | 0, d, h => by cases d <;> exact nomatch h
  | n + 1, d, h => by
    cases d with
    | none => trivial
    | bool _ => trivial
    | int _ => trivial
    | str _ => trivial
    | tuple ds =>
      have h' : (decide (ds.length ≤ 1000) && ds.all (plainB n)) = true := h
      rw [Bool.and_eq_true, List.all_eq_true] at h'
      exact ⟨of_decide_eq_true h'.1, fun d hd => plainB_ok n d (h'.2 d hd)⟩
    | list ds =>
      have h' : (decide (ds.length ≤ 1000) && ds.all (plainB n)) = true := h
      rw [Bool.and_eq_true, List.all_eq_true] at h'
      exact ⟨of_decide_eq_true h'.1, fun d hd => plainB_ok n d (h'.2 d hd)⟩
    | dict _ => exact nomatch h
theorem plainN_mono : ∀ (n m : Nat) (d : PyData), n ≤ m → plainN n d → plainN m d
  | 0, _, d, _, h => by cases d <;> exact False.elim h
  | n + 1, 0, d, h, _ => by omega
  | n + 1, m + 1, d, hm, h => by
    cases d with
    | none => trivial
    | bool _ => trivial
    | int _ => trivial
    | str _ => trivial
    | tuple ds => exact ⟨h.1, fun d hd => plainN_mono n m d (by omega) (h.2 d hd)⟩
    | list ds => exact ⟨h.1, fun d hd => plainN_mono n m d (by omega) (h.2 d hd)⟩
    | dict _ => exact False.elim h
def GoD (S : List Addr) (H H' : Hp) : Prop := Same (offS S H) (offS S H')
theorem GoD.refl {S : List Addr} {H : Hp} : GoD S H H := fun _ _ h => h
theorem GoD.trans {S : List Addr} {H H1 H2 : Hp} (a : GoD S H H1) (b : GoD S H1 H2) : GoD S H H2 := fun x o h => b x o (a x o h)
theorem GoD.of {S : List Addr} {H H' : Hp} (e : Same H H') : GoD S H H' := fun x o h => by
  obtain ⟨h1, h2⟩ := offS_some h
  rw [offS_ne h1]
  exact e x o h2
theorem GoD.rn {K : PySem.W.Frag} {S : List Addr} {tp ca : Addr} {H H' : Hp} (r : Rn K tp ca H H') (h : tp ∈ S) : GoD S H H' := fun x o e => by
  obtain ⟨h1, h2⟩ := offS_some e
  rw [offS_ne h1]
  exact r.at h2 fun z => h1 (by rw [z]; exact h)
theorem GoD.upd {S : List Addr} {H H' : Hp} {p : Addr} {o : HO} (g : GoD S H H') (h : p ∈ S) : GoD S H (L2.upd H' p o) := fun x u e => by
  obtain ⟨h1, h2⟩ := offS_some (g x u e)
  rw [offS_ne h1, upd_ne (fun z => h1 (by rw [z]; exact h))]
  exact h2
theorem DpF.offS {K : PySem.W.Frag} {S : List Addr} {H H' : Hp} {v : V} {d : PyData} (f : DpF K H H' v d) (h : ∀ a ∈ S, H a ≠ none) : Dp K (K27.offS S H') v d := f _ fun b u h1 h2 => by
  rw [offS_ne (fun z => h b z h1)]
  exact h2
theorem dp_onS {K : PySem.W.Frag} {S : List Addr} {H : Hp} {v : V} {d : PyData} (h : Dp K (offS S H) v d) : Dp K H v d := dp_same offS_same h
theorem cut_take (xs : List V) (k : Nat) : cutV xs none (some (k : Int)) = xs.take k := by
  unfold cutV
  rw [HT.sIx_none, HT.sIx_nat]
  show (xs.drop 0).take (min k xs.length - 0) = _
  rw [List.drop_zero, Nat.sub_zero]
  by_cases h : k ≤ xs.length
  · rw [Nat.min_eq_left h]
  · rw [Nat.min_eq_right (by omega), List.take_length, List.take_of_length_le (by omega)]
theorem dps_take {K : PySem.W.Frag} {H : Hp} : ∀ {vs : List V} {ds : List PyData} (n : Nat), DpAll K H vs ds → DpAll K H (vs.take n) (ds.take n)
  | _, _, 0, _ => by rw [List.take_zero, List.take_zero]; exact .nil
  | _, _, n + 1, .nil => .nil
  | _, _, n + 1, .cons h q => .cons h (dps_take n q)
theorem dps_drop {K : PySem.W.Frag} {H : Hp} : ∀ {vs : List V} {ds : List PyData} (n : Nat), DpAll K H vs ds → DpAll K H (vs.drop n) (ds.drop n)
  | _, _, 0, h => h
  | _, _, n + 1, .nil => .nil
  | _, _, n + 1, .cons h q => dps_drop n q
/-! ### expressions whose values are data -/
def InD (S : List Addr) (H : Hp) : Prop := ∀ a ∈ S, H a ≠ none
theorem InD.same {S : List Addr} {H H' : Hp} (h : InD S H) (s : Same H H') : InD S H' := fun a ha e => h a ha (s.free e)
theorem InD.new {S : List Addr} {H : Hp} {p : Addr} (h : InD S H) (hp : H p = none) : p ∉ S := fun z => h p z hp
theorem InD.rn {K : PySem.W.Frag} {S : List Addr} {tp ca : Addr} {H H' : Hp} (h : InD S H) (r : Rn K tp ca H H') : InD S H' := fun a ha e => h a ha (r.free e)
theorem Tape.inD {K : PySem.W.Frag} {H : Hp} {tp ca : Addr} (t : Tape K H tp ca) : InD [tp] H := fun a ha => by
  obtain rfl := List.mem_singleton.mp ha
  obtain ⟨u, e⟩ := t.some
  rw [e]
  simp
theorem off_del {tp : Addr} {H : Hp} : offS [tp] H = del H tp := by
  funext b
  unfold offS del
  simp
def PV (K : PySem.W.Frag) (S : List Addr) (te : TE) (σ : L2.St) (H : Hp) (d : PyData) : Prop := ∀ H1, Same H H1 → ∀ Q : VK, (∀ v H2, Same H1 H2 → Dp K (offS S H2) v d → Q v H2) → te σ H1 Q
def PVs (K : PySem.W.Frag) (S : List Addr) (ta : TA) (σ : L2.St) (H : Hp) (ds : List PyData) : Prop := ∀ H1, Same H H1 → ∀ Q : List V → Hp → Prop, (∀ vs H2, Same H1 H2 → DpAll K (offS S H2) vs ds → Q vs H2) → ta σ H1 Q
/-- a number that is found without a change -/
def PN (te : TE) (σ : L2.St) (k : Int) : Prop := ∀ H Q, Q (.int k) H → te σ H Q
section
variable {K : PySem.W.Frag} {S : List Addr} {σ : L2.St} {H : Hp} {te tf : TE} {ta : TA} {d : PyData} {ds es : List PyData}
theorem pv_use {Q : VK} (h : PV K S te σ H d) (q : ∀ v H', Same H H' → Dp K (offS S H') v d → Q v H') : te σ H Q := h H same_refl Q q
theorem pn_c {k : Int} : PN (tC (.int k)) σ k := fun _ _ q => q
theorem pn_v {i : Nat} {k : Int} (h : σ[i]? = some (some (.int k))) : PN (tVar i) σ k := fun _ _ q => ⟨_, h, q⟩
theorem pn_add {k m : Int} (a : PN te σ k) (b : PN tf σ m) : PN (tOp (rI0 fun i j => .int (i + j)) te tf) σ (k + m) := fun H Q q => a H _ (b H _ ⟨k, m, rfl, rfl, q⟩)
theorem pn_sub {k m : Int} (a : PN te σ k) (b : PN tf σ m) : PN (tOp (rI0 fun i j => .int (i - j)) te tf) σ (k - m) := fun H Q q => a H _ (b H _ ⟨k, m, rfl, rfl, q⟩)
theorem pn_neg {k : Int} (a : PN te σ k) : PN (tUn (rU fun i => .int (-i)) te) σ (-k) := fun H Q q => a H _ ⟨k, rfl, q⟩
theorem pv_var {i : Nat} {v : V} (h : σ[i]? = some (some v)) (hd : Dp K (offS S H) v d) : PV K S (tVar i) σ H d := fun H1 s Q q => ⟨v, h, q v H1 same_refl (dp_same (GoD.of s) hd)⟩
theorem pv_n {k : Int} (h : PN te σ k) : PV K S te σ H (.int k) := fun H1 s Q q => h H1 Q (q _ H1 same_refl (.int k))
theorem pv_int {i : Int} : PV K S (tC (.int i)) σ H (.int i) := fun H1 s Q q => q _ H1 same_refl (.int i)
theorem pv_bl {b : Bool} : PV K S (tC (.bl b)) σ H (.bool b) := fun H1 s Q q => q _ H1 same_refl (.bl b)
theorem pv_non : PV K S (tC .non) σ H .none := fun H1 s Q q => q _ H1 same_refl .non
theorem pv_str {z : Str} : PV K S (tC (.str z)) σ H (.str z) := fun H1 s Q q => q _ H1 same_refl (.str z)
theorem pvs_nil : PVs K S tNil σ H [] := fun H1 s Q q => q [] H1 same_refl .nil
theorem pvs_cons (h : PV K S te σ H d) (hs : PVs K S ta σ H ds) : PVs K S (tCons te ta) σ H (d :: ds) := fun H1 s Q q => h H1 s _ fun v H2 s2 h2 => hs H2 (s.trans s2) _ fun vs H3 s3 h3 => q (v :: vs) H3 (s2.trans s3) (.cons (dp_same (GoD.of s3) h2) h3)
theorem sqt_offS {H : Hp} {p : Addr} {xs : List V} (h : H p = some (.tup xs)) (n : p ∉ S) : SqT K (offS S H) p xs := SqT.of (by rw [offS_ne n]; exact h)
theorem sql_offS {H : Hp} {p : Addr} {xs : List V} (h : H p = some (.lst xs)) (n : p ∉ S) : SqL K (offS S H) p xs := SqL.of (by rw [offS_ne n]; exact h)
theorem pv_tup (hS : InD S H) (h : PVs K S ta σ H ds) (hl : ds.length ≤ 1000) : PV K S (tTup ta) σ H (.tuple ds) := fun H1 s Q q => h H1 s _ fun vs H2 s2 h2 => by
  have hl1 := dps_len h2
  have hsl := sizeLine_eq
  exact ⟨by omega, fun p hp => q _ _ (s2.trans (same_new hp)) (.tup (sqt_offS upd_same (((hS.same s).same s2).new hp)) (dps_same (GoD.of (same_new hp)) h2))⟩
theorem pv_lst (hS : InD S H) (h : PVs K S ta σ H ds) (hl : ds.length ≤ 1000) : PV K S (tLst ta) σ H (.list ds) := fun H1 s Q q => h H1 s _ fun vs H2 s2 h2 => by
  have hl1 := dps_len h2
  have hsl := sizeLine_eq
  exact ⟨by omega, fun p hp => q _ _ (s2.trans (same_new hp)) (.lst (sql_offS upd_same (((hS.same s).same s2).new hp)) (dps_same (GoD.of (same_new hp)) h2))⟩
theorem pv_cat (hS : InD S H) (ha : PV K S te σ H (.tuple ds)) (hb : PV K S tf σ H (.tuple es)) (hl : ds.length + es.length ≤ 10000) : PV K S (tOp (rCatA K) te tf) σ H (.tuple (ds ++ es)) := fun H1 s Q q => ha H1 s _ fun v1 H2 s2 h2 => hb H2 (s.trans s2) _ fun v2 H3 s3 h3 => by
  have h2' := dp_same (GoD.of s3) h2
  cases h2' with
  | @tup a xs _ hs1 ha1 =>
  cases h3 with
  | @tup b ys _ hs3 ha3 =>
  have l1 := dps_len ha1
  have l2 := dps_len ha3
  have hsl := sizeLine_eq
  have hd3 : DpAll K (offS S H3) (xs ++ ys) (ds ++ es) := dps_app ha1 ha3
  refine ⟨a, b, xs, ys, rfl, rfl, same_sqt offS_same hs1, same_sqt offS_same hs3, by omega, fun e => ?_, fun _ e => ?_, fun _ _ p hp => ?_⟩
  · subst e
    exact q _ H3 (s2.trans s3) (.tup hs3 hd3)
  · subst e
    rw [List.append_nil] at hd3
    exact q _ H3 (s2.trans s3) (.tup hs1 hd3)
  · exact q _ _ (s2.trans (s3.trans (same_new hp))) (.tup (sqt_offS upd_same ((((hS.same s).same s2).same s3).new hp)) (dps_same (GoD.of (same_new hp)) hd3))
theorem rSlA_off (hS : InD S H) {a : Addr} {xs : List V} {lo hi : Option Int} {Q : VK} (ha : SqT K (offS S H) a xs) (h : ∀ tp H2, Same H H2 → SqT K (offS S H2) tp (cutV xs lo hi) → Q (.ref tp) H2) : rSlA K (.ref a) lo hi H Q := by
  refine ⟨a, xs, rfl, same_sqt offS_same ha, fun e => ?_, fun e p hp => h p _ (same_new hp) (sqt_offS upd_same (hS.new hp))⟩
  refine h a H (fun _ _ z => z) ?_
  have : cutV xs lo hi = xs := by
    unfold cutV
    rw [e.1, e.2, List.drop_zero, Nat.sub_zero, List.take_length]
  rw [this]
  exact ha
theorem pv_take (hS : InD S H) (ha : PV K S te σ H (.tuple ds)) {k : Nat} (hk : PN tf σ (k : Nat)) : PV K S (tSl (rSlA K) te tNoPart (tPart tf)) σ H (.tuple (ds.take k)) := fun H1 s Q q => ha H1 s _ fun v1 H2 s2 h2 => by
  cases h2 with
  | @tup a xs _ hs1 ha1 =>
  refine hk H2 _ ⟨_, rfl, rSlA_off ((hS.same s).same s2) hs1 fun t H3 s3 ht => ?_⟩
  rw [cut_take] at ht
  exact q _ H3 (s2.trans s3) (.tup ht (dps_take k (dps_same (GoD.of s3) ha1)))
theorem pv_drop (hS : InD S H) (ha : PV K S te σ H (.tuple ds)) {k : Nat} (hk : PN tf σ (k : Nat)) : PV K S (tSl (rSlA K) te (tPart tf) tNoPart) σ H (.tuple (ds.drop k)) := fun H1 s Q q => ha H1 s _ fun v1 H2 s2 h2 => by
  cases h2 with
  | @tup a xs _ hs1 ha1 =>
  refine hk H2 _ ⟨_, rfl, rSlA_off ((hS.same s).same s2) hs1 fun t H3 s3 ht => ?_⟩
  rw [cut_drop] at ht
  exact q _ H3 (s2.trans s3) (.tup ht (dps_drop k (dps_same (GoD.of s3) ha1)))
theorem pv_ix (ha : PV K S te σ H (.tuple ds)) {k : Nat} (hk : PN tf σ (k : Nat)) (hd : ds[k]? = some d) : PV K S (tOp (rIxT K) te tf) σ H d := fun H1 s Q q => ha H1 s _ fun v1 H2 s2 h2 => by
  cases h2 with
  | @tup a xs _ hs1 ha1 =>
  have hl := dps_len ha1
  have hkl := (List.getElem?_eq_some_iff.mp hd).1
  have hx : xs[k]? = some (xs[k]'(by omega)) := List.getElem?_eq_getElem (by omega)
  obtain ⟨d', e1, e2⟩ := dps_at ha1 hx
  rw [hd] at e1
  obtain rfl := Option.some.inj e1
  exact hk H2 _ ⟨a, xs, _, _, rfl, rfl, same_sqt offS_same hs1, atI_nat hx, q _ H2 s2 e2⟩
/-- len of data -/
theorem pn_len {v : V} {i : Nat} {r : List V → Hp → VK → Prop} {Q : VK} (hr : r = rLenQ K) (h : σ[i]? = some (some v)) (hd : Dp K (offS S H) v (.tuple ds)) (q : Q (.int (ds.length : Nat)) H) : tCB r (tCons (tVar i) tNil) σ H Q := by
  subst hr
  cases hd with
  | @tup a xs _ hs ha =>
  refine ⟨_, h, a, xs, rfl, .inr (same_sqt offS_same hs), ?_⟩
  rw [dps_len ha]
  exact q
end
end K27
set_option Elab.async false
set_option linter.all false
set_option maxRecDepth 100000
set_option maxHeartbeats 4000000
namespace K27
open PySem PySem.Spec PyProof.Rows L2 Dt
mutual
def dtOf : PyData → Dt
  | .tuple ds => dtRow ds
  | _ => .x
def dtRow : List PyData → Dt
  | [] => .o
  | d :: ds => .c (dtOf d) (dtRow ds)
end
theorem dtf_of {K : PySem.W.Frag} {H : Hp} : ∀ {vs : List V} {ds : List PyData}, DpAll K H vs ds → DtF K H vs (dtRow ds)
  | _, _, .nil => by
    unfold dtRow
    exact .nil
  | _, _, @DpAll.cons _ _ v vs d ds h q => by
    have hq := dtf_of q
    unfold dtRow
    have hk := kind_dp h
    cases h with
    | tup hs ha =>
      have h2 := dtf_of ha
      show DtF K H _ (.c (dtOf (.tuple _)) _)
      unfold dtOf
      exact .tup hs h2 hq
    | non => exact .bad hk (by simp [kindOf]) hq
    | bl b => exact .bad hk (by simp [kindOf]) hq
    | int i => exact .bad hk (by simp [kindOf]) hq
    | str z => exact .bad hk (by simp [kindOf]) hq
    | lst _ _ => exact .bad hk (by simp [kindOf]) hq
theorem dtv_of {K : PySem.W.Frag} {H : Hp} {v : V} {d : PyData} (h : Dp K H v d) : DtV K H v (dtOf d) := by
  have hk := kind_dp h
  cases h with
  | tup hs ha =>
    unfold dtOf
    exact .inr ⟨_, _, rfl, hs, dtf_of ha⟩
  | non => exact .inl ⟨by unfold dtOf; rfl, _, hk, by simp [kindOf]⟩
  | bl b => exact .inl ⟨by unfold dtOf; rfl, _, hk, by simp [kindOf]⟩
  | int i => exact .inl ⟨by unfold dtOf; rfl, _, hk, by simp [kindOf]⟩
  | str z => exact .inl ⟨by unfold dtOf; rfl, _, hk, by simp [kindOf]⟩
  | lst _ _ => exact .inl ⟨by unfold dtOf; rfl, _, hk, by simp [kindOf]⟩
def Shp (n : Nat) (d : PyData) : Prop := d.canLay0 = true ∧ d.depth ≤ n
theorem shps {n : Nat} : ∀ {ds : List PyData}, (∀ e ∈ ds, Shp n e) → PyData.canLayAll0 ds = true ∧ PyData.depthAll ds ≤ n
  | [], _ => ⟨rfl, Nat.zero_le _⟩
  | d :: ds, h => by
    obtain ⟨h1, h2⟩ := shps (n := n) (ds := ds) fun e he => h e (List.mem_cons_of_mem _ he)
    obtain ⟨h3, h4⟩ := h d (List.mem_cons_self ..)
    rw [PyData.canLayAll0, PyData.depthAll, h1, h3]
    exact ⟨rfl, by omega⟩
theorem shp_tup {n : Nat} {ds : List PyData} (h : ∀ e ∈ ds, Shp n e) : Shp (n + 1) (.tuple ds) := by
  obtain ⟨h1, h2⟩ := shps h
  unfold Shp
  rw [PyData.canLay0, PyData.depth]
  exact ⟨h1, by omega⟩
theorem shp_lst {n : Nat} {ds : List PyData} (h : ∀ e ∈ ds, Shp n e) : Shp (n + 1) (.list ds) := by
  obtain ⟨h1, h2⟩ := shps h
  unfold Shp
  rw [PyData.canLay0, PyData.depth]
  exact ⟨h1, by omega⟩
theorem shp_int {n : Nat} {i : Int} : Shp n (.int i) := by
  unfold Shp
  rw [PyData.canLay0, PyData.depth]
  exact ⟨rfl, Nat.zero_le _⟩
theorem shp_ints {n : Nat} {l : List Int} : Shp (n + 1) (intsD l) := shp_tup fun e he => by
  obtain ⟨i, _, rfl⟩ := List.mem_map.mp he
  exact shp_int
theorem Shp.mono {n m : Nat} {d : PyData} (h : Shp n d) (k : n ≤ m) : Shp m d := ⟨h.1, Nat.le_trans h.2 k⟩
theorem Shp.ok {n : Nat} {d : PyData} (h : Shp n d) (k : n ≤ 64) : SeqAt.shaped d = true := by
  unfold SeqAt.shaped
  rw [h.1, decide_eq_true (Nat.le_trans h.2 k)]
  rfl
/-! ### lists of data beside a tape -/
def LVal (K : PySem.W.Frag) (S : List Addr) (H : Hp) (v : V) (ds : List PyData) : Prop := ∃ l xs, v = .ref l ∧ offS S H l = some (.lst xs) ∧ DpAll K (offS S H) xs ds
def PL (K : PySem.W.Frag) (S : List Addr) (te : TE) (σ : L2.St) (H : Hp) (ds : List PyData) : Prop := ∀ H1, Same H H1 → ∀ Q : VK, (∀ v H2, Same H1 H2 → LVal K S H2 v ds → Q v H2) → te σ H1 Q
section
variable {K : PySem.W.Frag} {S : List Addr} {σ : L2.St} {H : Hp} {te tf tg : TE} {ta : TA} {d : PyData} {ds es : List PyData}
theorem LVal.go {H' : Hp} {v : V} (h : LVal K S H v ds) (g : GoD S H H') : LVal K S H' v ds := by
  obtain ⟨l, xs, rfl, h1, h2⟩ := h
  exact ⟨l, xs, rfl, g _ _ h1, dps_same g h2⟩
theorem pl_use {Q : VK} (h : PL K S te σ H ds) (q : ∀ v H', Same H H' → LVal K S H' v ds → Q v H') : te σ H Q := h H same_refl Q q
theorem pl_var {i : Nat} {v : V} (h : σ[i]? = some (some v)) (hd : LVal K S H v ds) : PL K S (tVar i) σ H ds := fun H1 s Q q => ⟨v, h, q v H1 same_refl (hd.go (GoD.of s))⟩
theorem pl_lst (hS : InD S H) (h : PVs K S ta σ H ds) (hl : ds.length ≤ 1000) : PL K S (tLst ta) σ H ds := fun H1 s Q q => h H1 s _ fun vs H2 s2 h2 => by
  have hl1 := dps_len h2
  have hsl := sizeLine_eq
  exact ⟨by omega, fun p hp => q _ _ (s2.trans (same_new hp)) ⟨p, vs, rfl, by rw [offS_ne (((hS.same s).same s2).new hp)]; exact upd_same, dps_same (GoD.of (same_new hp)) h2⟩⟩
theorem pl_cat (hS : InD S H) (ha : PL K S te σ H ds) (hb : PL K S tf σ H es) (hl : ds.length + es.length ≤ 10000) : PL K S (tOp rCat te tf) σ H (ds ++ es) := fun H1 s Q q => ha H1 s _ fun v1 H2 s2 h2 => hb H2 (s.trans s2) _ fun v2 H3 s3 h3 => by
  obtain ⟨a, xs, rfl, a1, a2⟩ := h2.go (GoD.of s3)
  obtain ⟨b, ys, rfl, b1, b2⟩ := h3
  have l1 := dps_len a2
  have l2 := dps_len b2
  have hsl := sizeLine_eq
  exact ⟨a, b, xs, ys, rfl, rfl, (offS_some a1).2, (offS_some b1).2, by omega, fun p hp => q _ _ (s2.trans (s3.trans (same_new hp))) ⟨p, xs ++ ys, rfl, by rw [offS_ne ((((hS.same s).same s2).same s3).new hp)]; exact upd_same, dps_same (GoD.of (same_new hp)) (dps_app a2 b2)⟩⟩
theorem rSlL_off (hS : InD S H) {v : V} {lo hi : Option Int} {Q : VK} (hv : LVal K S H v ds) (q : ∀ p H2 xs, Same H H2 → DpAll K (offS S H) xs ds → offS S H2 p = some (.lst (cutV xs lo hi)) → Q (.ref p) H2) : rSlL K v lo hi H Q := by
  obtain ⟨a, xs, rfl, a1, a2⟩ := hv
  exact ⟨a, xs, rfl, SqL.of (offS_some a1).2, fun p hp => q p _ xs (same_new hp) a2 (by rw [offS_ne (hS.new hp)]; exact upd_same)⟩
theorem pl_take (hS : InD S H) (ha : PL K S te σ H ds) {k : Nat} (hk : PN tf σ (k : Nat)) : PL K S (tSl (rSlL K) te tNoPart (tPart tf)) σ H (ds.take k) := fun H1 s Q q => ha H1 s _ fun v1 H2 s2 h2 => hk H2 _ ⟨_, rfl, rSlL_off ((hS.same s).same s2) h2 fun p H3 xs s3 h3 h4 => by
  rw [cut_take] at h4
  exact q _ H3 (s2.trans s3) ⟨p, _, rfl, h4, dps_take k (dps_same (GoD.of s3) h3)⟩⟩
theorem pl_drop (hS : InD S H) (ha : PL K S te σ H ds) {k : Nat} (hk : PN tf σ (k : Nat)) : PL K S (tSl (rSlL K) te (tPart tf) tNoPart) σ H (ds.drop k) := fun H1 s Q q => ha H1 s _ fun v1 H2 s2 h2 => hk H2 _ ⟨_, rfl, rSlL_off ((hS.same s).same s2) h2 fun p H3 xs s3 h3 h4 => by
  rw [cut_drop] at h4
  exact q _ H3 (s2.trans s3) ⟨p, _, rfl, h4, dps_drop k (dps_same (GoD.of s3) h3)⟩⟩
theorem cut_mid (xs : List V) {i j : Nat} (h1 : i ≤ xs.length) (h2 : j ≤ xs.length) : cutV xs (some (i : Int)) (some (j : Int)) = (xs.drop i).take (j - i) := by
  have a : HT.sIx xs.length 0 (some (i : Int)) = i := by
    unfold HT.sIx
    simp
    rw [if_neg (by omega)]
    omega
  have b : HT.sIx xs.length xs.length (some (j : Int)) = j := by
    unfold HT.sIx
    simp
    rw [if_neg (by omega)]
    omega
  unfold cutV
  rw [a, b]
theorem pl_mid (hS : InD S H) (ha : PL K S te σ H ds) {i j : Nat} (hi : PN tf σ (i : Nat)) (hj : PN tg σ (j : Nat)) (h1 : i ≤ ds.length) (h2 : j ≤ ds.length) : PL K S (tSl (rSlL K) te (tPart tf) (tPart tg)) σ H ((ds.drop i).take (j - i)) := fun H1 s Q q => ha H1 s _ fun v1 H2 s2 h2' => hi H2 _ ⟨_, rfl, hj H2 _ ⟨_, rfl, rSlL_off ((hS.same s).same s2) h2' fun p H3 xs s3 h3 h4 => by
  have hl := dps_len h3
  rw [cut_mid xs (by omega) (by omega)] at h4
  exact q _ H3 (s2.trans s3) ⟨p, _, rfl, h4, dps_take _ (dps_drop i (dps_same (GoD.of s3) h3))⟩⟩⟩
theorem pv_ixL (ha : PL K S te σ H ds) {k : Nat} (hk : PN tf σ (k : Nat)) (hd : ds[k]? = some d) : PV K S (tOp (rIxL K) te tf) σ H d := fun H1 s Q q => ha H1 s _ fun v1 H2 s2 h2 => by
  obtain ⟨a, xs, rfl, a1, a2⟩ := h2
  have hl := dps_len a2
  have hkl := (List.getElem?_eq_some_iff.mp hd).1
  have hx : xs[k]? = some (xs[k]'(by omega)) := List.getElem?_eq_getElem (by omega)
  obtain ⟨d', e1, e2⟩ := dps_at a2 hx
  rw [hd] at e1
  obtain rfl := Option.some.inj e1
  exact hk H2 _ ⟨a, xs, _, _, rfl, rfl, SqL.of (offS_some a1).2, atI_nat hx, q _ H2 s2 e2⟩
theorem pv_tupL (hS : InD S H) (ha : PL K S te σ H ds) {r : List V → Hp → VK → Prop} (hr : r = rTupQ K) : PV K S (tCB r (tCons te tNil)) σ H (.tuple ds) := fun H1 s Q q => ha H1 s _ fun v1 H2 s2 h2 => by
  subst hr
  obtain ⟨a, xs, rfl, a1, a2⟩ := h2
  exact ⟨a, xs, rfl, .inl ⟨SqL.of (offS_some a1).2, fun l hl => q _ _ (s2.trans (same_new hl)) (.tup (sqt_offS upd_same (((hS.same s).same s2).new hl)) (dps_same (GoD.of (same_new hl)) a2))⟩⟩
theorem pn_lenL {v : V} {i : Nat} {r : List V → Hp → VK → Prop} {Q : VK} (hr : r = rLenQ K) (h : σ[i]? = some (some v)) (hd : LVal K S H v ds) (q : Q (.int (ds.length : Nat)) H) : tCB r (tCons (tVar i) tNil) σ H Q := by
  subst hr
  obtain ⟨a, xs, rfl, a1, a2⟩ := hd
  refine ⟨_, h, a, xs, rfl, .inl (SqL.of (offS_some a1).2), ?_⟩
  rw [dps_len a2]
  exact q
end
/-! ### shapes as data -/
theorem dtRow_kids : ∀ ds : List PyData, (dtRow ds).kids = ds.map dtOf
  | [] => by
    unfold dtRow
    rfl
  | d :: ds => by
    unfold dtRow
    show dtOf d :: (dtRow ds).kids = _
    rw [dtRow_kids ds]
    rfl
theorem dtRow_len (ds : List PyData) : (dtRow ds).len = ds.length := by
  rw [← kids_len, dtRow_kids, List.length_map]
theorem dtRow_isx : ∀ ds : List PyData, (dtRow ds).isx = false
  | [] => by unfold dtRow; rfl
  | _ :: _ => by unfold dtRow; rfl
theorem dt_tup (ds : List PyData) : dtOf (.tuple ds) = dtRow ds := by unfold dtOf; rfl
theorem good_tup {ds : List PyData} (h : ds.length ≤ 6) (hk : ∀ d ∈ ds, (dtOf d).good 1 = true) : (dtOf (.tuple ds)).good 1 = true := by
  rw [dt_tup]
  unfold Dt.good Dt.here
  rw [dtRow_isx, dtRow_len, decide_eq_true h, kids_good, dtRow_kids]
  have e : (ds.map dtOf).all (good 1) = true := List.all_eq_true.mpr fun t ht => by
    obtain ⟨d, hd, rfl⟩ := List.mem_map.mp ht
    exact hk d hd
  rw [e]
  by_cases h0 : 0 < ds.length
  · rw [decide_eq_true h0, decide_eq_false (show ¬ ds.length < 1 by omega)]
    rfl
  · rw [decide_eq_false h0]
    rfl
def nd (d : PyData) : Nat := (dtOf d).nodes
def nds (ds : List PyData) : Nat := (ds.map nd).sum
theorem nds_app (a b : List PyData) : nds (a ++ b) = nds a + nds b := by
  unfold nds
  rw [List.map_append, List.sum_append]
theorem nd_row : ∀ ds : List PyData, (dtRow ds).nodes = nds ds + 1
  | [] => by unfold dtRow; rfl
  | d :: ds => by
    unfold dtRow
    show (dtOf d).nodes + (dtRow ds).nodes = _
    rw [nd_row ds]
    unfold nds nd
    rw [List.map_cons, List.sum_cons]
    omega
theorem nd_tup (ds : List PyData) : nd (.tuple ds) = nds ds + 1 := by
  unfold nd
  rw [dt_tup, nd_row]
theorem ht_row {h : Nat} : ∀ ds : List PyData, (∀ d ∈ ds, (dtOf d).ht ≤ h) → (dtRow ds).ht ≤ h + 1
  | [], _ => by unfold dtRow; exact Nat.zero_le _
  | d :: ds, hd => by
    unfold dtRow
    show max ((dtOf d).ht + 1) (dtRow ds).ht ≤ h + 1
    have h1 := hd d (List.mem_cons_self ..)
    have h2 := ht_row ds fun x hx => hd x (List.mem_cons_of_mem _ hx)
    omega
theorem size_nodes : ∀ t : Dt, t.size + 1 ≤ 2 * t.nodes
  | .x => Nat.le_refl 2
  | .o => Nat.le_refl 2
  | .c k r => by
    have h1 := size_nodes k
    have h2 := size_nodes r
    show k.size + r.size + 1 + 1 ≤ 2 * (k.nodes + r.nodes)
    omega
/-- the parts that a form is made of -/
structure Fs (s : Nat) (ds : List PyData) : Prop where
  ne : ds ≠ []
  good : ∀ d ∈ ds, (dtOf d).good 1 = true
  ht : ∀ d ∈ ds, (dtOf d).ht + s + ds.length ≤ 12
  nd : nds ds + s + ds.length ≤ 21
  sh : ∀ d ∈ ds, Shp (13 - (s + ds.length)) d
theorem Fs.pos {s : Nat} {ds : List PyData} (h : Fs s ds) : 1 ≤ ds.length := by
  have := h.ne
  cases ds with
  | nil => exact absurd rfl this
  | cons _ _ => exact Nat.le_add_left 1 _
theorem Fs.le {s : Nat} {ds : List PyData} (h : Fs s ds) : s + ds.length ≤ 12 := by
  cases ds with
  | nil => exact absurd rfl h.ne
  | cons d ds => have := h.ht d (List.mem_cons_self ..); omega
def leafD : PyData := .tuple []
theorem fs_start {n : Nat} (h1 : 1 ≤ n) (h2 : n ≤ 9) : Fs 3 (List.replicate n leafD) := by
  have e : dtOf leafD = .o := by
    unfold leafD
    rw [dt_tup]
    unfold dtRow
    rfl
  refine ⟨fun z => ?_, fun d hd => ?_, fun d hd => ?_, ?_, fun d hd => ?_⟩
  · have := congrArg List.length z
    rw [List.length_replicate] at this
    rw [List.length_nil] at this
    omega
  · rw [(List.mem_replicate.mp hd).2, e]
    rfl
  · rw [(List.mem_replicate.mp hd).2, e, List.length_replicate]
    show 0 + 3 + n ≤ 12
    omega
  · have e2 : K27.nd leafD = 1 := by
      unfold K27.nd
      rw [e]
      rfl
    have e3 : ∀ m : Nat, nds (List.replicate m leafD) = m := by
      intro m
      induction m with
      | zero => rfl
      | succ m ih =>
        rw [List.replicate_succ]
        show K27.nd leafD + nds (List.replicate m leafD) = m + 1
        rw [ih, e2]
        omega
    rw [e3, List.length_replicate]
    omega
  · rw [(List.mem_replicate.mp hd).2]
    have : Shp (0 + 1) leafD := shp_tup fun e he => nomatch he
    exact this.mono (by rw [List.length_replicate]; omega)
theorem split_at {ds : List PyData} {r : Nat} {d : PyData} (h : ds[r]? = some d) : ds = ds.take r ++ [d] ++ ds.drop (r + 1) := by
  obtain ⟨h1, h2⟩ := List.getElem?_eq_some_iff.mp h
  conv => lhs; rw [← List.take_append_drop r ds, List.drop_eq_getElem_cons h1, h2]
  simp
/-- a run of them becomes one -/
theorem fs_fold {s s' : Nat} {ds : List PyData} {r w : Nat} (h : Fs s ds) (h1 : 1 ≤ w) (h6 : w ≤ 6) (hr : r + w ≤ ds.length) (hs : s' + 1 + 1 ≤ s + w) (hs' : s' ≤ s) : Fs s' (ds.take r ++ [.tuple ((ds.drop r).take w)] ++ ds.drop (r + w)) := by
  have hlen : (ds.take r ++ [PyData.tuple ((ds.drop r).take w)] ++ ds.drop (r + w)).length = ds.length + 1 - w := by
    rw [List.length_append, List.length_append, List.length_take, List.length_drop, List.length_singleton]
    omega
  have hw : ((ds.drop r).take w).length = w := by
    rw [List.length_take, List.length_drop]
    omega
  have hm : ∀ d ∈ (ds.drop r).take w, d ∈ ds := fun d hd => List.mem_of_mem_drop (List.mem_of_mem_take hd)
  have key : ∀ {p : PyData → Prop}, (∀ d ∈ ds, p d) → p (.tuple ((ds.drop r).take w)) → ∀ d ∈ ds.take r ++ [PyData.tuple ((ds.drop r).take w)] ++ ds.drop (r + w), p d := fun ha hb d hd => by
    rcases List.mem_append.mp hd with hd | hd
    · rcases List.mem_append.mp hd with hd | hd
      · exact ha d (List.mem_of_mem_take hd)
      · obtain rfl := List.mem_singleton.mp hd
        exact hb
    · exact ha d (List.mem_of_mem_drop hd)
  refine ⟨fun z => ?_, key h.good (good_tup (by omega) fun d hd => h.good d (hm d hd)), ?_, ?_, ?_⟩
  · rw [z] at hlen
    have : ds.length + 1 - w = 0 := hlen.symm
    omega
  · rw [hlen]
    refine key (fun d hd => ?_) ?_
    · have := h.ht d hd
      omega
    · rw [dt_tup]
      have := ht_row (h := 12 - s - ds.length) ((ds.drop r).take w) fun d hd => by
        have := h.ht d (hm d hd)
        omega
      have := h.le
      omega
  · rw [nds_app, nds_app, hlen]
    have e : nds [PyData.tuple ((ds.drop r).take w)] = nds ((ds.drop r).take w) + 1 := by
      show nd _ + 0 = _
      rw [nd_tup]
    have e2 : nds ds = nds (ds.take r) + (nds ((ds.drop r).take w) + nds (ds.drop (r + w))) := by
      rw [← nds_app, ← nds_app]
      congr 1
      have : ds.drop (r + w) = (ds.drop r).drop w := by rw [List.drop_drop]
      rw [this, List.take_append_drop, List.take_append_drop]
    have := h.nd
    rw [e]
    omega
  · rw [hlen]
    have := h.le
    refine key (fun d hd => (h.sh d hd).mono (by omega)) ?_
    have q : Shp (13 - (s + ds.length) + 1) (.tuple ((ds.drop r).take w)) := shp_tup fun e he => h.sh e (hm e he)
    exact q.mono (by omega)
/-- what a form is -/
structure FormOK (d : PyData) : Prop where
  good : (dtOf d).good 1 = true
  nd : nd d ≤ 20
  ht : (dtOf d).ht ≤ 11
  sh : Shp 13 d
theorem fs_form {s : Nat} {ds : List PyData} {d : PyData} (h : Fs s ds) (hd : d ∈ ds) : FormOK d := by
  have hp := h.pos
  refine ⟨h.good d hd, ?_, ?_, (h.sh d hd).mono (by omega)⟩
  · have h1 := h.nd
    have : K27.nd d ≤ nds ds := by
      obtain ⟨r, hr⟩ := List.mem_iff_getElem?.mp hd
      have := congrArg nds (split_at hr)
      rw [nds_app, nds_app] at this
      have e : nds [d] = K27.nd d := Nat.add_zero _
      omega
    omega
  · have := h.ht d hd
    omega
theorem FormOK.size {d : PyData} (h : FormOK d) : (dtOf d).size ≤ 100000 := by
  have := size_nodes (dtOf d)
  have := h.nd
  unfold K27.nd at this
  omega
end K27
set_option Elab.async false
set_option linter.all false
set_option maxRecDepth 100000
set_option maxHeartbeats 8000000
namespace K27
open PySem PySem.Spec PyProof.Rows L2 Dt
theorem goT {K : PySem.W.Frag} {tp ca : Addr} {H H' : Hp} (r : Rn K tp ca H H') : GoD [tp] H H' := GoD.rn r (by simp)
/-! ### _law_form -/
def stFo (tp : Addr) (o1 : Option V) (v : V) (s : Nat) (o4 o5 o6 : Option V) : L2.St := [some (.ref tp), o1, some v, some (.int (s : Nat)), o4, o5, o6]
def spForm (K : PySem.W.Frag) : Sp := fun vs H Q _ => ∃ (tp ca : Addr), vs = [.ref tp] ∧ Tape K H tp ca ∧ ∀ H' v d, Rn K tp ca H H' → FormOK d → Dp K (offS [tp] H') v d → Q v H'
def tParts (K : PySem.W.Frag) : TS := fun D σ H => ∃ (tp ca : Addr), σ = [some (.ref tp), none, none, none, none, none, none] ∧ Tape K H tp ca ∧ ∀ H' v n, Rn K tp ca H H' → 1 ≤ n → n ≤ 9 → LVal K [tp] H' v (List.replicate n leafD) → D.nx [some (.ref tp), none, some v, none, none, none, none] H'
def tF1 (K : PySem.W.Frag) : TS := fun D σ H => ∃ (tp ca : Addr) (o1 : Option V) (v : V) (s : Nat) (o4 o5 o6 : Option V) (ds : List PyData), σ = stFo tp o1 v s o4 o5 o6 ∧ Tape K H tp ca ∧ LVal K [tp] H v ds ∧ Fs s ds ∧
  ∀ H' v' s' o5' ds', Rn K tp ca H H' → LVal K [tp] H' v' ds' → Fs s' ds' → D.nx (stFo tp o1 v' s' o4 o5' o6) H'
def tF2 (K : PySem.W.Frag) : TS := fun D σ H => ∃ (tp ca : Addr) (o1 : Option V) (v : V) (s : Nat) (o4 o5 o6 : Option V) (ds : List PyData), σ = stFo tp o1 v s o4 o5 o6 ∧ Tape K H tp ca ∧ LVal K [tp] H v ds ∧ Fs s ds ∧
  ∀ H' v' o5' o6' ds', Rn K tp ca H H' → LVal K [tp] H' v' ds' → Fs s ds' → D.nx (stFo tp o1 v' s o4 o5' o6') H'
def tWd (K : PySem.W.Frag) : TS := fun D σ H => ∃ (tp ca : Addr) (o1 : Option V) (v : V) (s : Nat) (o4 o5 : Option V) (w : Nat) (ds : List PyData), σ = stFo tp o1 v s o4 o5 (some (.int (w : Nat))) ∧ Tape K H tp ca ∧ LVal K [tp] H v ds ∧ 2 ≤ w ∧ w ≤ 6 ∧ w ≤ ds.length ∧
  ∀ H' (w' : Nat), Rn K tp ca H H' → 2 ≤ w' → w' ≤ 6 → w' ≤ ds.length → D.nx (stFo tp o1 v s o4 o5 (some (.int (w' : Nat)))) H'
def tOne (K : PySem.W.Frag) : TE := fun σ H Q => ∃ (tp : Addr) (v : V) (r : Nat) (ds : List PyData) (d : PyData), σ[2]? = some (some v) ∧ σ[5]? = some (some (.int (r : Nat))) ∧ InD [tp] H ∧ LVal K [tp] H v ds ∧ ds[r]? = some d ∧ ds.length ≤ 100 ∧
  ∀ H' v', Same H H' → LVal K [tp] H' v' (ds.take r ++ [.tuple [d]] ++ ds.drop (r + 1)) → Q v' H'
def tMerge (K : PySem.W.Frag) : TE := fun σ H Q => ∃ (tp : Addr) (v : V) (r w : Nat) (ds : List PyData), σ[2]? = some (some v) ∧ σ[5]? = some (some (.int (r : Nat))) ∧ σ[6]? = some (some (.int (w : Nat))) ∧ InD [tp] H ∧ LVal K [tp] H v ds ∧ r + w ≤ ds.length ∧ ds.length ≤ 100 ∧
  ∀ H' v', Same H H' → LVal K [tp] H' v' (ds.take r ++ [.tuple ((ds.drop r).take w)] ++ ds.drop (r + w)) → Q v' H'
theorem fs_single {s r : Nat} {ds : List PyData} {d : PyData} (h : Fs s ds) (hs : 1 ≤ s) (hd : ds[r]? = some d) : Fs (s - 1) (ds.take r ++ [.tuple [d]] ++ ds.drop (r + 1)) := by
  have h1 := (List.getElem?_eq_some_iff.mp hd).1
  have e : (ds.drop r).take 1 = [d] := by
    rw [List.drop_eq_getElem_cons h1, (List.getElem?_eq_some_iff.mp hd).2]
    rfl
  have := fs_fold (s' := s - 1) (r := r) (w := 1) h (Nat.le_refl 1) (by decide) (by omega) (by omega) (by omega)
  rw [e] at this
  exact this
theorem minI (i j : Nat) : (if (j : Int) < (i : Int) then (j : Int) else (i : Int)) = ((min i j : Nat) : Int) := by
  by_cases h : j < i
  · rw [if_pos (by omega), Nat.min_eq_right (by omega)]
  · rw [if_neg (by omega), Nat.min_eq_left (by omega)]
section
variable {P : Program} {w : World} {K : PySem.W.Frag} {mg : Str → Option Value} {base : Heap} {C U fI fG B S PA : Addr}
theorem ok_form (D : DefAt K mg "_law_form" s_law_form ["tape"]) (T : Txt K mg) (GDraw : CalX P w K mg base CX0 1 "_law_draw" ["tape", "many"] (spDraw K)) : CalX P w K mg base CX0 2 "_law_form" ["tape"] (spForm K) := by
  refine D.ok sc_law_form (fun vs H Q E h => ?_) (fun f cdv A outer s H vs Q E hr h => ?_)
  · obtain ⟨tp, ca, rfl, _⟩ := h
    rfl
  obtain ⟨tp, ca, rfl, hT, q⟩ := h
  refine ⟨_, (pss_cons (ps_conv (t' := tParts K) (ps_setLc (i := 2) (own := [("k", 1)]) (g := gName 1) (tt := tYes) (by rfl) sc_law_form.nd rfl rfl (sw_true rfl rfl (by decide) (by decide)) (pi_range1 (by rfl) T.range (pa_cons (pe_op op_add (pe_c0 GDraw hr (by decide) rfl (pa_cons (pv 0) (pa_cons pe_int pa_nil))) pe_int) pa_nil)) (blkOk_by (own := [("k", 1)]) (N := N_law_form) (sc := defScope s_law_form) (by decide +kernel)) (fun _ _ _ _ _ => pg_name (i := 1) sc_law_form.nd rfl (Or.inl rfl)) (fun _ _ _ _ _ => pts_nil) (fun _ _ _ _ _ => by exact (pe_tup pa_nil))) (by
        rintro D σ H ⟨tp, ca, rfl, hT, k⟩
        refine ⟨_, rfl, tp, ca, 9, rfl, hT, by decide, by decide, fun H1 r hr1 R1 => ⟨_, _, rfl, rfl, _, rfl, by omega, by omega, fun Dl hDl => ?_⟩⟩
        refine lc_range (lo := 0) (n := r + 1) (fun i H' => Same H1 H' ∧ ∃ acc, H' Dl = some (.lst acc) ∧ acc.length = i ∧ Made K H1 H' Dl acc (List.replicate i leafD)) ⟨same_new hDl, [], upd_same, rfl, fun _ _ => .nil⟩ ?_ ?_
        · rintro i H' hi ⟨sm, acc, hD, hal, hm⟩
          refine ⟨rfl, (by show 0 ≤ sizeLine; decide), fun p hp => ⟨acc, (same_new hp) _ _ hD, small1000 (by omega), same_mut (sm.trans (same_new hp)) hDl, acc ++ [.ref p], upd_same, by rw [List.length_append]; show acc.length + 1 = i + 1; omega, ?_⟩⟩
          have f : DpF K H' (upd H' p (.tup [])) (.ref p) leafD := fun H3 hk => .tup (SqT.of (hk p _ hp upd_same)) .nil
          rw [List.replicate_succ']
          exact Made.step sm hD (same_new hp) hm f
        · rintro H2 ⟨sm, acc, hD, hal, hm⟩
          have R2 := R1.same sm
          have nD : Dl ∉ [tp] := R1.b.inD.new hDl
          refine k H2 (.ref Dl) (r + 1) R2 (by omega) (by omega) ⟨Dl, acc, rfl, by rw [offS_ne nD]; exact hD, hm _ fun b u h1 h2 h3 => ?_⟩
          rw [offS_ne (R1.b.inD.new h1)]
          exact h3)) 
    (pss_cons (ps_set (i := 3) sc_law_form.nd rfl (.inl rfl) pe_int) 
    (pss_cons (ps_for PassesOwn.never rfl (pi_range1 (by rfl) T.range (pa_cons pe_int pa_nil)) (pg_name (i := 4) sc_law_form.nd rfl (Or.inl rfl)) 
      (pss_cons (ps_conv (t' := tF1 K) (ps_if (PW.pt (pw_and (pt_cmpR op_gt (pv 3) pe_int (nomark _)) (pw_and1 (pt_cmpR op_eq (pe_c0 GDraw hr (by decide) rfl (pa_cons (pv 0) (pa_cons pe_int pa_nil))) pe_int (nomark _))))) 
        (pss_cons (ps_set (i := 5) sc_law_form.nd rfl (.inl rfl) (pe_c0 GDraw hr (by decide) rfl (pa_cons (pv 0) (pa_cons (pe_callB call_len_seq (by rfl) T.len PySem.boot_len (pa_cons (pv 2) pa_nil)) pa_nil)))) 
        (pss_cons (ps_set (i := 2) sc_law_form.nd rfl (.inl rfl) (pe_conv (t' := tOne K) (pe_op op_cat (pe_op op_cat (pe_slice sl_list (pv 2) po_none (po_some (pv 5))) (pe_lst (pa_cons (pe_tup (pa_cons (pe_ix ix_list (pv 2) (pv 5) (fun _ _ => rfl)) pa_nil)) pa_nil))) (pe_slice sl_list (pv 2) (po_some (pe_op op_add (pv 5) pe_int)) po_none)) (by
        rintro σ H Q ⟨tp, v, r, ds, d, h2, h5, hS, hv, hd, hn, k⟩
        have h1 := (List.getElem?_eq_some_iff.mp hd).1
        have pl := pl_var (K := K) h2 hv
        have n5 : PN (tVar 5) σ ((r : Nat) : Int) := pn_v h5
        have n1 : PN (tOp (rI0 fun i j => .int (i + j)) (tVar 5) (tC (.int 1))) σ ((r + 1 : Nat) : Int) := pn_add n5 pn_c
        have p := pl_cat hS (pl_cat hS (pl_take hS pl n5) (pl_lst hS (pvs_cons (pv_tup hS (pvs_cons (pv_ixL pl n5 hd) pvs_nil) (by show 1 ≤ 1000; decide)) pvs_nil) (by show 1 ≤ 1000; decide)) (by
          rw [List.length_take]
          show min r _ + 1 ≤ 10000
          omega)) (pl_drop hS pl n1) (by
          rw [List.length_append, List.length_take, List.length_drop]
          show min r _ + 1 + _ ≤ 10000
          omega)
        exact pl_use p fun v' H' s hv' => k H' v' s hv'))) 
        (pss_one (ps_aug (i := 3) sc_law_form.nd rfl (.inl rfl) pe_int ip_sub)))) pss_nil) (by
        rintro D σ H ⟨tp, ca, o1, v, s, o4, o5, o6, ds, rfl, hT, hv, hf, k⟩
        refine ⟨_, rfl, _, _, rfl, rfl, _, rfl, ?_⟩
        refine ite2 (fun c => ?_) (fun c => iteF (k H v s o5 ds (Rn.refl hT) hv hf))
        have hs : 1 ≤ s := by
          have := of_decide_eq_true c
          omega
        refine ⟨_, rfl, tp, ca, 6, rfl, hT, by decide, by decide, fun H1 r hr1 R1 => ⟨rfl, _, rfl, ?_⟩⟩
        have hv1 := hv.go (goT R1)
        refine ite2 (fun c => ?_) (fun c => k H1 v s o5 ds R1 hv1 hf)
        have hv1' := hv1
        obtain ⟨l, xs, rfl, a1, a2⟩ := hv1
        have hl := dps_len a2
        have hp := hf.pos
        have hle := hf.le
        refine ⟨_, rfl, _, rfl, l, xs, rfl, .inl (SqL.of (offS_some a1).2), tp, ca, ds.length, by rw [hl]; rfl, R1.b, by omega, by omega, fun H2 r2 hr2 R2 => ?_⟩
        have hd : ds[r2]? = some (ds[r2]'hr2) := List.getElem?_eq_getElem hr2
        refine ⟨tp, _, r2, ds, _, rfl, rfl, R2.b.inD, hv1'.go (goT R2), hd, by omega, fun H3 v3 s3 hv3 => ?_⟩
        refine ⟨_, rfl, _, _, rfl, rfl, ?_⟩
        have e : ((s : Nat) : Int) - 1 = ((s - 1 : Nat) : Int) := by omega
        have := k H3 v3 (s - 1) (some (.int (r2 : Nat))) _ (R1.trans (R2.same s3)) hv3 (fs_single hf hs hd)
        unfold stFo at this
        rw [← e] at this
        exact this)) 
      (pss_one (ps_conv (t' := tF2 K) (ps_if (pt_cmpR op_gt (pe_callB call_len_seq (by rfl) T.len PySem.boot_len (pa_cons (pv 2) pa_nil)) pe_int (nomark _)) 
        (pss_cons (ps_set (i := 6) sc_law_form.nd rfl (.inl rfl) (pe_callB (call_min2 rfl) (by rfl) T.min (by decide +kernel) (pa_cons (pe_op op_add pe_int (pe_c0 GDraw hr (by decide) rfl (pa_cons (pv 0) (pa_cons pe_int pa_nil)))) (pa_cons (pe_callB call_len_seq (by rfl) T.len PySem.boot_len (pa_cons (pv 2) pa_nil)) pa_nil)))) 
        (pss_cons (ps_conv (t' := tWd K) (ps_if (pt_cmpR op_eq (pe_c0 GDraw hr (by decide) rfl (pa_cons (pv 0) (pa_cons pe_int pa_nil))) pe_int (nomark _)) 
          (pss_one (ps_set (i := 6) sc_law_form.nd rfl (.inl rfl) (pe_callB (call_min2 rfl) (by rfl) T.min (by decide +kernel) (pa_cons pe_int (pa_cons (pe_callB call_len_seq (by rfl) T.len PySem.boot_len (pa_cons (pv 2) pa_nil)) pa_nil))))) pss_nil) (by
        rintro D σ H ⟨tp, ca, o1, v, s, o4, o5, w, ds, rfl, hT, hv, w1, w2, w3, k⟩
        refine ⟨_, rfl, tp, ca, 8, rfl, hT, by decide, by decide, fun H1 r hr1 R1 => ⟨rfl, _, rfl, ?_⟩⟩
        refine ite2 (fun c => ?_) (fun c => k H1 w R1 w1 w2 w3)
        obtain ⟨l, xs, rfl, a1, a2⟩ := hv.go (goT R1)
        have hl := dps_len a2
        refine ⟨_, rfl, l, xs, rfl, .inl (SqL.of (offS_some a1).2), _, _, rfl, ?_⟩
        have e := minI 6 xs.length
        have := k H1 (min 6 xs.length) R1 (by omega) (by omega) (by omega)
        unfold stFo at this
        rw [← e] at this
        exact this)) 
        (pss_cons (ps_set (i := 5) sc_law_form.nd rfl (.inl rfl) (pe_c0 GDraw hr (by decide) rfl (pa_cons (pv 0) (pa_cons (pe_op op_add (pe_op op_sub (pe_callB call_len_seq (by rfl) T.len PySem.boot_len (pa_cons (pv 2) pa_nil)) (pv 6)) pe_int) pa_nil)))) 
        (pss_one (ps_set (i := 2) sc_law_form.nd rfl (.inl rfl) (pe_conv (t' := tMerge K) (pe_op op_cat (pe_op op_cat (pe_slice sl_list (pv 2) po_none (po_some (pv 5))) (pe_lst (pa_cons (pe_callTy call_tuple_of (by rfl) T.tuple PyProof.Rows.boot_tuple (pa_cons (pe_slice sl_list (pv 2) (po_some (pv 5)) (po_some (pe_op op_add (pv 5) (pv 6)))) pa_nil)) pa_nil))) (pe_slice sl_list (pv 2) (po_some (pe_op op_add (pv 5) (pv 6))) po_none)) (by
        rintro σ H Q ⟨tp, v, r, w, ds, h2, h5, h6, hS, hv, hw, hn, k⟩
        have pl := pl_var (K := K) h2 hv
        have n5 : PN (tVar 5) σ ((r : Nat) : Int) := pn_v h5
        have n1 : PN (tOp (rI0 fun i j => .int (i + j)) (tVar 5) (tVar 6)) σ ((r + w : Nat) : Int) := pn_add n5 (pn_v h6)
        have pm := pl_mid hS pl n5 n1 (by omega) hw
        rw [Nat.add_sub_cancel_left] at pm
        have p := pl_cat hS (pl_cat hS (pl_take hS pl n5) (pl_lst hS (pvs_cons (pv_tupL hS pm rfl) pvs_nil) (by show 1 ≤ 1000; decide)) (by
          rw [List.length_take]
          show min r _ + 1 ≤ 10000
          omega)) (pl_drop hS pl n1) (by
          rw [List.length_append, List.length_take, List.length_drop]
          show min r _ + 1 + _ ≤ 10000
          omega)
        exact pl_use p fun v' H' s hv' => k H' v' s hv'))))))) pss_nil) (by
        rintro D σ H ⟨tp, ca, o1, v, s, o4, o5, o6, ds, rfl, hT, hv, hf, k⟩
        have hv' := hv
        obtain ⟨l, xs, rfl, a1, a2⟩ := hv
        have hl := dps_len a2
        have hle := hf.le
        refine ⟨_, rfl, l, xs, rfl, .inl (SqL.of (offS_some a1).2), _, _, rfl, rfl, _, rfl, ?_⟩
        refine ite2 (fun c => ?_) (fun c => k H _ o5 o6 ds (Rn.refl hT) hv' hf)
        have c2 := of_decide_eq_true c
        refine ⟨_, rfl, tp, ca, 2, rfl, hT, by decide, by decide, fun H1 r hr1 R1 => ?_⟩
        have hv1 := hv'.go (goT R1)
        have hs1 : SqL K H1 l xs := SqL.of (offS_some ((goT R1) _ _ a1)).2
        refine ⟨_, _, rfl, rfl, _, rfl, l, xs, rfl, .inl hs1, _, _, rfl, ?_⟩
        have e := minI (2 + r) xs.length
        refine ⟨tp, ca, o1, .ref l, s, o4, o5, min (2 + r) xs.length, ds, by rw [← e]; rfl, R1.b, hv1, by omega, by omega, by omega, fun H2 w' R2 w1 w2 w3 => ?_⟩
        have hs2 : SqL K H2 l xs := SqL.of (offS_some ((goT (R1.trans R2)) _ _ a1)).2
        have e2 : ((xs.length : Nat) : Int) - ((w' : Nat) : Int) + 1 = ((ds.length - w' + 1 : Nat) : Int) := by omega
        refine ⟨_, rfl, _, rfl, l, xs, rfl, .inl hs2, _, rfl, _, _, rfl, rfl, _, _, rfl, rfl, tp, ca, ds.length - w' + 1, congrArg (fun z => [V.ref tp, V.int z]) e2, R2.b, by omega, by omega, fun H3 r3 hr3 R3 => ?_⟩
        refine ⟨tp, _, r3, w', ds, rfl, rfl, rfl, R3.b.inD, (hv1.go (goT R2)).go (goT R3), by omega, by omega, fun H4 v4 s4 hv4 => ?_⟩
        exact k H4 v4 _ _ _ (R1.trans (R2.trans (R3.same s4))) hv4 (fs_fold hf (by omega) w2 (by omega) (by omega) (Nat.le_refl _))))))) 
    (pss_one (ps_ret (pe_ix ix_list (pv 2) pe_int (fun _ _ => rfl))))))), ?_⟩

  refine ⟨tp, ca, rfl, hT, fun H1 v n R1 n1 n2 hv => ?_⟩
  refine ⟨_, rfl, by decide, by decide, for_range (lo := 0) (n := 12) (fun i σ H' => Rn K tp ca H H' ∧ ∃ v' s' o4 o5 o6 ds, σ = stFo tp none v' s' o4 o5 o6 ∧ LVal K [tp] H' v' ds ∧ Fs s' ds) ⟨R1, v, 3, none, none, none, _, rfl, hv, fs_start n1 n2⟩ ?_ ?_⟩
  · rintro i σ H2 hi ⟨R2, v', s', o4, o5, o6, ds, rfl, hv2, hf⟩
    refine ⟨tp, ca, _, v', s', _, o5, o6, ds, rfl, R2.b, hv2, hf, fun H3 v3 s3 o53 ds3 R3 hv3 hf3 => ?_⟩
    refine ⟨tp, ca, _, v3, s3, _, o53, o6, ds3, rfl, R3.b, hv3, hf3, fun H4 v4 o54 o64 ds4 R4 hv4 hf4 => ?_⟩
    exact ⟨R2.trans (R3.trans R4), v4, s3, _, o54, o64, ds4, rfl, hv4, hf4⟩
  · rintro σ H2 ⟨R2, v', s', o4, o5, o6, ds, rfl, hv2, hf⟩
    have hp := hf.pos
    obtain ⟨l, xs, rfl, a1, a2⟩ := hv2
    have hl := dps_len a2
    have hx : xs[0]? = some (xs[0]'(by omega)) := List.getElem?_eq_getElem (by omega)
    obtain ⟨d, hd, hdv⟩ := dps_at a2 hx
    exact ⟨_, rfl, l, xs, 0, _, rfl, rfl, SqL.of (offS_some a1).2, atI_nat hx, q H2 _ d R2 (fs_form hf (List.mem_of_getElem? hd)) hdv⟩
end
end K27
set_option Elab.async false
set_option linter.all false
set_option maxRecDepth 100000
set_option maxHeartbeats 8000000
namespace K27
open PySem PySem.Spec PyProof.Rows L2
open Dt (sub sub_nil sub_app sub_one sub_pre lcp lcp_le lcp_pre)
/-! ### what a push turns: mathematics -/
theorem mrg_filter_ne (P : Int → Bool) (j : Nat) : ∀ (cs : List Nat) (o : Nat → List Int), Enough cs o → (∀ x ∈ o j, P x = false) → (mrg cs o).filter P = (mrg (cs.filter fun c => decide (c ≠ j)) o).filter P
  | [], _, _, _ => rfl
  | c :: cs, o, hn, h => by
    obtain ⟨y, t, ey⟩ := hn.head
    have e1 : mrg (c :: cs) o = y :: mrg cs (dropAt o c) := by
      show (o c).headD 0 :: _ = _
      rw [ey]
      rfl
    by_cases e : c = j
    · subst e
      have ny : P y = false := h y (by rw [ey]; exact List.mem_cons_self ..)
      have ih := mrg_filter_ne P c cs (dropAt o c) hn.tail (fun x hx => by
        unfold dropAt at hx
        rw [if_pos rfl] at hx
        exact h x (List.mem_of_mem_tail hx))
      rw [e1, List.filter_cons_of_neg (by rw [ny]; decide), ih, List.filter_cons_of_neg (by simp)]
      congr 1
      refine mrg_congr _ _ _ fun i hi => ?_
      have : i ≠ c := by simpa using (List.mem_filter.mp hi).2
      unfold dropAt
      rw [if_neg this]
    · have ih := mrg_filter_ne P j cs (dropAt o c) hn.tail (fun x hx => by
        unfold dropAt at hx
        rw [if_neg (Ne.symm e)] at hx
        exact h x hx)
      have e2 : mrg ((c :: cs).filter fun c => decide (c ≠ j)) o = y :: mrg (cs.filter fun c => decide (c ≠ j)) (dropAt o c) := by
        rw [List.filter_cons_of_pos (by simpa using e)]
        show (o c).headD 0 :: _ = _
        rw [ey]
        rfl
      rw [e1, e2, List.filter_cons, List.filter_cons, ih]
theorem its_psh0 {p q : Ad} {rs : List (List Int)} {u : Dt} {L : Lns} {n x : Int} {w w' : Dt} (hp : sub u p = some w) (hw : w.len = 0) (hq : sub u q = some w') (hw' : w'.len = 0) (h : x ∈ its (pshL p rs n L q)) : x = n ∨ x ∈ its (L q) := by
  unfold pshL at h
  by_cases e : q <+: p
  · rw [if_pos e] at h
    obtain ⟨s, rfl⟩ := e
    cases s with
    | cons j s =>
      rw [(sub_app u q w' hq (j :: s)).1] at hp
      obtain ⟨k, hk, _⟩ := sub_len hp
      have := kid_lt hk
      omega
    | nil =>
      obtain ⟨e, he, rfl⟩ := List.mem_map.mp h
      rcases List.mem_cons.mp ((insE_perm _ _).mem_iff.mp he) with rfl | he
      · left
        show itm (q ++ []) n q.length = n
        unfold itm
        rw [List.append_nil, List.getElem?_eq_none (Nat.le_refl _)]
      · exact .inr (List.mem_map_of_mem he)
  · rw [if_neg e] at h
    exact .inr h
theorem chs_ins (l : List En) (r : List Int) (j : Nat) : (chs (insE l (r, ((j : Nat) : Int)))).filter (fun c => decide (c ≠ j)) = (chs l).filter fun c => decide (c ≠ j) := by
  unfold insE chs
  rw [List.map_append, List.map_cons, List.filter_append, List.filter_cons_of_neg (by simp), ← List.filter_append, ← List.map_append, List.takeWhile_append_dropWhile]
theorem psh_head {p : Ad} {j : Nat} {r : List Int} {rs : List (List Int)} {n : Int} {L : Lns} : pshL (j :: p) (r :: rs) n L [] = insE (L []) (r, ((j : Nat) : Int)) := by
  unfold pshL
  rw [if_pos (List.nil_prefix ..)]
  rfl
theorem take_lcp_cons {i : Nat} {a b : Ad} : (i :: a).take (lcp (i :: a) (i :: b) + 1) = i :: a.take (lcp a b + 1) := by
  show List.take ((if i = i then lcp a b + 1 else 0) + 1) (i :: a) = _
  rw [if_pos rfl]
  rfl
theorem take_lcp_cons' {i : Nat} {a b : Ad} : (i :: b).take (lcp (i :: a) (i :: b) + 1) = i :: b.take (lcp a b + 1) := by
  show List.take ((if i = i then lcp a b + 1 else 0) + 1) (i :: b) = _
  rw [if_pos rfl]
  rfl
/-- what a push may not turn stays in its order -/
theorem psh_keep (P : Int → Bool) : ∀ (p : Ad) (u w : Dt) (L : Lns) (rs : List (List Int)) (n : Int) (q1 q2 : Ad) (w1 w2 : Dt), Con u L → sub u p = some w → w.len = 0 → rs.length = p.length + 1 → P n = false → sub u q1 = some w1 → w1.len = 0 → sub u q2 = some w2 → w2.len = 0 →
    (∀ q w', sub u q = some w' → w'.len = 0 → ∀ x ∈ its (L q), P x = true → q = q1 ∨ q = q2) → mayB p q1 q2 = false → (ord u (pshL p rs n L)).filter P = (ord u L).filter P
  | _, u, w, L, [], n, q1, q2, w1, w2, c, h, hw, hr, hn, h1, l1, h2, l2, hP, hm => by simp at hr
  | [], u, w, L, r :: rs, n, q1, q2, w1, w2, c, h, hw, hr, hn, h1, l1, h2, l2, hP, hm => by
    rw [sub_nil] at h
    obtain rfl := Option.some.inj h
    rw [ord_leaf hw, ord_leaf hw]
    unfold pshL
    rw [if_pos (List.nil_prefix ..)]
    unfold insE its
    rw [List.map_append, List.map_cons, List.filter_append, List.filter_cons_of_neg (by show ¬ P n = true; rw [hn]; decide), ← List.filter_append, ← List.map_append, List.takeWhile_append_dropWhile]
  | j :: p, u, w, L, r :: rs, n, q1, q2, w1, w2, c, h, hw, hr, hn, h1, l1, h2, l2, hP, hm => by
    obtain ⟨k, hk, hk2⟩ := sub_len h
    have hj := kid_lt hk
    have hl : u.len ≠ 0 := by omega
    have c' : Con u (pshL (j :: p) (r :: rs) n L) := pshL_con c h hw
    have nn : ∀ {q : Ad} {w' : Dt}, sub u q = some w' → w'.len = 0 → ∃ i t, q = i :: t := fun {q w'} e l => by
      cases q with
      | nil =>
        rw [sub_nil] at e
        obtain rfl := Option.some.inj e
        exact absurd l hl
      | cons i t => exact ⟨i, t, rfl⟩
    obtain ⟨i1, a, rfl⟩ := nn h1 l1
    obtain ⟨i2, b, rfl⟩ := nn h2 l2
    have inO : ∀ (L' : Lns), Con u L' → ∀ i, i < u.len → ∀ x ∈ ordC u L' i, ∃ t w', sub u (i :: t) = some w' ∧ w'.len = 0 ∧ x ∈ its (L' (i :: t)) := fun L' cL i hi x hx => by
      obtain ⟨k', hk'⟩ := kid_of hi
      rw [ordC_at hk'] at hx
      obtain ⟨t, w', g1, g2, g3⟩ := ord_mem _ k' (sh i L') (Nat.le_refl _) (cL.kid hk') x hx
      exact ⟨t, w', by rw [sub_kid hk']; exact g1, g2, g3⟩
    have hP' : ∀ q w', sub u q = some w' → w'.len = 0 → ∀ x ∈ its (pshL (j :: p) (r :: rs) n L q), P x = true → q = i1 :: a ∨ q = i2 :: b := fun q w' e l x hx px => by
      rcases its_psh0 h hw e l hx with z | z
      · rw [z, hn] at px
        exact nomatch px
      · exact hP q w' e l x z px
    rw [ord_fork hl, ord_fork hl]
    by_cases e12 : i1 = i2
    · subst e12
      obtain ⟨k1, hk1, hs1⟩ := sub_len h1
      obtain ⟨k1', hk1', hs2⟩ := sub_len h2
      rw [hk1] at hk1'
      obtain rfl := Option.some.inj hk1'
      have hi1 := kid_lt hk1
      have only : ∀ (L' : Lns), Con u L' → (∀ q w', sub u q = some w' → w'.len = 0 → ∀ x ∈ its (L' q), P x = true → q = i1 :: a ∨ q = i1 :: b) → (mrg (chs (L' [])) (ordC u L')).filter P = (ord k1 (sh i1 L')).filter P := fun L' cL hL => by
        rw [mrg_filter2 P (chs (L' [])) (ordC u L') i1 (cL.enough hl) (fun i hi e x hx => by
          obtain ⟨t, w', g1, g2, g3⟩ := inO L' cL i (cL.chs_lt hl i hi) x hx
          cases px : P x with
          | false => rfl
          | true =>
            rcases hL _ _ g1 g2 x g3 px with z | z <;> (injection z with z1 _; exact absurd z1 e)), cL.exact hi1, List.take_length, ordC_at hk1]
      rw [only _ c' hP', only _ c hP]
      by_cases e : i1 = j
      · subst e
        rw [hk] at hk1
        obtain rfl := Option.some.inj hk1
        rw [sh_psh]
        refine psh_keep P p k w (sh i1 L) rs n a b w1 w2 (c.kid hk) hk2 hw (by simpa using hr) hn hs1 l1 hs2 l2 (fun q w' g1 g2 x hx px => ?_) ?_
        · rcases hP (i1 :: q) w' (by rw [sub_kid hk]; exact g1) g2 x hx px with z | z
          · injection z with _ z
            exact .inl z
          · injection z with _ z
            exact .inr z
        · unfold mayB at hm ⊢
          rw [take_lcp_cons, take_lcp_cons'] at hm
          have x1 : decide (i1 :: a = i1 :: b) = decide (a = b) := decide_eq_decide.mpr ⟨fun z => by injection z, fun z => by rw [z]⟩
          have x2 : ∀ t : Ad, decide (i1 :: t <+: i1 :: p) = decide (t <+: p) := fun t => decide_eq_decide.mpr (by rw [List.cons_prefix_cons]; exact ⟨fun z => z.2, fun z => ⟨rfl, z⟩⟩)
          rw [x1, x2, x2] at hm
          exact hm
      · rw [sh_psh_ne e]
    · have hm0 : j ≠ i1 ∧ j ≠ i2 := by
        unfold mayB at hm
        have l0 : lcp (i1 :: a) (i2 :: b) = 0 := if_neg e12
        rw [l0, decide_eq_false (fun z : i1 :: a = i2 :: b => e12 (by injection z))] at hm
        have m2 : (decide ([i1] <+: j :: p) || decide ([i2] <+: j :: p)) = false := hm
        rw [Bool.or_eq_false_iff] at m2
        refine ⟨fun z => ?_, fun z => ?_⟩
        · have := of_decide_eq_false m2.1
          exact this (by rw [z, List.cons_prefix_cons]; exact ⟨rfl, List.nil_prefix ..⟩)
        · have := of_decide_eq_false m2.2
          exact this (by rw [z, List.cons_prefix_cons]; exact ⟨rfl, List.nil_prefix ..⟩)
      have none_j : ∀ (L' : Lns), Con u L' → (∀ q w', sub u q = some w' → w'.len = 0 → ∀ x ∈ its (L' q), P x = true → q = i1 :: a ∨ q = i2 :: b) → ∀ x ∈ ordC u L' j, P x = false := fun L' cL hL x hx => by
        obtain ⟨t, w', g1, g2, g3⟩ := inO L' cL j hj x hx
        cases px : P x with
        | false => rfl
        | true =>
          rcases hL _ _ g1 g2 x g3 px with z | z
          · injection z with z1 _
            exact absurd z1 hm0.1
          · injection z with z1 _
            exact absurd z1 hm0.2
      rw [mrg_filter_ne P j _ _ (c'.enough hl) (none_j _ c' hP'), mrg_filter_ne P j _ _ (c.enough hl) (none_j _ c hP), psh_head, chs_ins]
      refine congrArg (List.filter P) (mrg_congr _ _ _ fun i hi => ?_)
      have hij : i ≠ j := by simpa using (List.mem_filter.mp hi).2
      obtain ⟨k', hk'⟩ := kid_of (c.chs_lt hl i (List.mem_filter.mp hi).1)
      rw [ordC_at hk', ordC_at hk', sh_psh_ne hij]
/-! an order holds each number once -/
theorem fm_one {x : Int} {c : Nat} : ∀ (l : List Nat) (o o' : Nat → List Int), l.Nodup → c ∈ l → (∀ i ∈ l, i ≠ c → o' i = o i) → (o' c).Perm (x :: o c) → (l.flatMap o').Perm (x :: l.flatMap o)
  | [], _, _, _, h, _, _ => nomatch h
  | i :: l, o, o', hn, h, he, hc => by
    rw [List.flatMap_cons, List.flatMap_cons]
    rw [List.nodup_cons] at hn
    by_cases e : i = c
    · subst e
      have : l.flatMap o' = l.flatMap o := by
        have : ∀ m : List Nat, (∀ i' ∈ m, o' i' = o i') → m.flatMap o' = m.flatMap o := by
          intro m
          induction m with
          | nil => exact fun _ => rfl
          | cons y m ih =>
            intro hm
            rw [List.flatMap_cons, List.flatMap_cons, hm y (List.mem_cons_self ..), ih fun z hz => hm z (List.mem_cons_of_mem _ hz)]
        exact this l fun i' hi' => he i' (List.mem_cons_of_mem _ hi') fun z => hn.1 (by rw [← z]; exact hi')
      rw [this]
      exact hc.append_right _
    · have ih := fm_one l o o' hn.2 ((List.mem_cons.mp h).resolve_left (Ne.symm e)) (fun i' hi' => he i' (List.mem_cons_of_mem _ hi')) hc
      rw [he i (List.mem_cons_self ..) e]
      exact (ih.append_left _).trans List.perm_middle
theorem mrg_perm (N : Nat) : ∀ (cs : List Nat) (o : Nat → List Int), (∀ j, cs.count j = (o j).length) → (∀ c ∈ cs, c < N) → (mrg cs o).Perm ((List.range N).flatMap o)
  | [], o, h, _ => by
    have : (List.range N).flatMap o = [] := by
      rw [List.flatMap_eq_nil_iff]
      exact fun j _ => List.eq_nil_of_length_eq_zero (by rw [← h j]; rfl)
    rw [this]
    exact .refl _
  | c :: cs, o, h, hc => by
    have hd := h c
    rw [List.count_cons_self] at hd
    cases e : o c with
    | nil =>
      rw [e] at hd
      exact nomatch hd
    | cons y t =>
      have e1 : mrg (c :: cs) o = y :: mrg cs (dropAt o c) := by
        show (o c).headD 0 :: _ = _
        rw [e]
        rfl
      rw [e1]
      have ih := mrg_perm N cs (dropAt o c) (fun j => by
        have hj := h j
        unfold dropAt
        by_cases z : j = c
        · subst z
          rw [if_pos rfl, List.length_tail]
          omega
        · rw [if_neg z, ← hj, List.count_cons_of_ne (Ne.symm z)]) (fun i hi => hc i (List.mem_cons_of_mem _ hi))
      refine (ih.cons y).trans (fm_one (List.range N) (dropAt o c) o List.nodup_range (List.mem_range.mpr (hc c (List.mem_cons_self ..))) (fun i _ hi => ?_) ?_).symm
      · unfold dropAt
        rw [if_neg hi]
      · unfold dropAt
        rw [if_pos rfl, e]
        exact .refl _
theorem Con.mperm {u : Dt} {L : Lns} (c : Con u L) (h : u.len ≠ 0) : (mrg (chs (L [])) (ordC u L)).Perm ((List.range u.len).flatMap (ordC u L)) := by
  refine mrg_perm u.len _ _ (fun j => ?_) (fun j hj => c.chs_lt h j hj)
  by_cases hj : j < u.len
  · exact c.exact hj
  · rw [List.count_eq_zero.mpr fun z => hj (c.chs_lt h j z)]
    unfold ordC
    rw [List.getD_eq_getElem?_getD, List.getElem?_eq_none (by rw [ordK_len]; omega)]
    rfl
theorem psh_perm : ∀ (p : Ad) (u w : Dt) (L : Lns) (rs : List (List Int)) (n : Int), Con u L → sub u p = some w → w.len = 0 → rs.length = p.length + 1 → (ord u (pshL p rs n L)).Perm (n :: ord u L)
  | _, u, w, L, [], n, c, h, hw, hr => by simp at hr
  | [], u, w, L, r :: rs, n, c, h, hw, hr => by
    rw [sub_nil] at h
    obtain rfl := Option.some.inj h
    rw [ord_leaf hw, ord_leaf hw]
    unfold pshL
    rw [if_pos (List.nil_prefix ..)]
    exact (insE_perm _ _).map _
  | j :: p, u, w, L, r :: rs, n, c, h, hw, hr => by
    obtain ⟨k, hk, hk2⟩ := sub_len h
    have hj := kid_lt hk
    have hl : u.len ≠ 0 := by omega
    have c' : Con u (pshL (j :: p) (r :: rs) n L) := pshL_con c h hw
    have ih := psh_perm p k w (sh j L) rs n (c.kid hk) hk2 hw (by simpa using hr)
    rw [ord_fork hl, ord_fork hl]
    refine (c'.mperm hl).trans ((fm_one (List.range u.len) (ordC u L) (ordC u (pshL (j :: p) (r :: rs) n L)) List.nodup_range (List.mem_range.mpr hj) (fun i hi hij => ?_) ?_).trans ((c.mperm hl).symm.cons n))
    · obtain ⟨k', hk'⟩ := kid_of (List.mem_range.mp hi)
      rw [ordC_at hk', ordC_at hk', sh_psh_ne hij]
    · rw [ordC_at hk, ordC_at hk, sh_psh]
      exact ih
/-! places in an order -/
theorem sub_of_lt {l : List Int} {x y : Int} {i j : Nat} (hx : l[i]? = some x) (hy : l[j]? = some y) (h : i < j) : [x, y].Sublist l := by
  have e := (List.take_append_drop j l).symm
  rw [e]
  have h1 : x ∈ l.take j := by
    refine List.mem_of_getElem? (i := i) ?_
    rw [List.getElem?_take_of_lt h]
    exact hx
  have h2 : y ∈ l.drop j := by
    refine List.mem_of_getElem? (i := 0) ?_
    rw [List.getElem?_drop]
    exact hy
  exact List.Sublist.append (List.singleton_sublist.mpr h1) (List.singleton_sublist.mpr h2)
theorem lt_of_sub {x y : Int} : ∀ (l : List Int) {i j : Nat}, l.Nodup → [x, y].Sublist l → l[i]? = some x → l[j]? = some y → i < j
  | [], i, j, _, _, h, _ => by simp at h
  | z :: l, i, j, hn, hs, hi, hj => by
    rw [List.nodup_cons] at hn
    cases hs with
    | cons _ hs =>
      have hx : x ∈ l := hs.subset (List.mem_cons_self ..)
      have hy : y ∈ l := hs.subset (List.mem_cons_of_mem _ (List.mem_cons_self ..))
      cases i with
      | zero =>
        have : z = x := by simpa using hi
        exact absurd hx (by rw [← this]; exact hn.1)
      | succ i =>
        cases j with
        | zero =>
          have : z = y := by simpa using hj
          exact absurd hy (by rw [← this]; exact hn.1)
        | succ j =>
          have := lt_of_sub l hn.2 hs (by simpa using hi) (by simpa using hj)
          omega
    | cons_cons _ hs =>
      have hy : y ∈ l := List.singleton_sublist.mp hs
      cases j with
      | zero =>
        have : x = y := by simpa using hj
        exact absurd hy (by rw [← this]; exact hn.1)
      | succ j =>
        cases i with
        | zero => omega
        | succ i =>
          have hx : x ∈ l := List.mem_of_getElem? (i := i) (by simpa using hi)
          exact absurd hx hn.1
/-- two orders that hold x and y in one sequence -/
theorem lt_same {l l' : List Int} {x y : Int} {i j i' j' : Nat} (P : Int → Bool) (hl : l.Nodup) (hl' : l'.Nodup) (e : l.filter P = l'.filter P) (px : P x = true) (py : P y = true) (hi : l[i]? = some x) (hj : l[j]? = some y) (hi' : l'[i']? = some x) (hj' : l'[j']? = some y) : decide (i < j) = decide (i' < j') := by
  refine decide_eq_decide.mpr ⟨fun h => ?_, fun h => ?_⟩
  · have s := (sub_of_lt hi hj h).filter P
    rw [show [x, y].filter P = [x, y] by simp [px, py], e] at s
    exact lt_of_sub l' hl' (s.trans List.filter_sublist) hi' hj'
  · have s := (sub_of_lt hi' hj' h).filter P
    rw [show [x, y].filter P = [x, y] by simp [px, py], ← e] at s
    exact lt_of_sub l hl (s.trans List.filter_sublist) hi hj
end K27
set_option Elab.async false
set_option linter.all false
set_option maxRecDepth 100000
set_option maxHeartbeats 8000000
namespace K27
open PySem PySem.Spec PyProof.Rows L2
open Dt (sub sub_nil sub_app sub_one sub_pre lcp lcp_le lcp_pre lv sub_ad isLf_o)
/-! ### the order behind a hop: mathematics -/
def fillL : List (Option Int) → List Int → List Int
  | [], _ => []
  | some x :: s, r => x :: fillL s r
  | none :: s, r => r.headD 0 :: fillL s r.tail
def chI (f : Nat → Nat) (j : Nat) : Option Nat → Nat | some k => f k | none => j
def mslot (g : Nat → Int) (f : Nat → Nat) (j : Nat) : Option Nat → Option Int | some k => if f k = j then none else some (g k) | none => none
def inC (f : Nat → Nat) (j : Nat) : Option Nat → Bool | some k => decide (f k = j) | none => true
def valG (g : Nat → Int) (z : Int) : Option Nat → Int | some k => g k | none => z
theorem mrg_fill (g : Nat → Int) (f : Nat → Nat) (j n : Nat) : ∀ (ss : List (Option Nat)) (o : Nat → List Int), (∀ k, some k ∈ ss → f k < n) → (∀ i, i < n → i ≠ j → o i = ((ss.filterMap id).filter fun k => decide (f k = i)).map g) → mrg (ss.map (chI f j)) o = fillL (ss.map (mslot g f j)) (o j)
  | [], _, _, _ => rfl
  | none :: ss, o, hn, h => by
    show (o j).headD 0 :: mrg (ss.map (chI f j)) (dropAt o j) = (o j).headD 0 :: fillL (ss.map (mslot g f j)) (o j).tail
    have e : dropAt o j j = (o j).tail := if_pos rfl
    rw [mrg_fill g f j n ss (dropAt o j) (fun k hk => hn k (List.mem_cons_of_mem _ hk)) (fun i hi hij => by
      unfold dropAt
      rw [if_neg hij, h i hi hij]
      rfl), e]
  | some k :: ss, o, hn, h => by
    have hk := hn k (List.mem_cons_self ..)
    have hn' : ∀ k, some k ∈ ss → f k < n := fun k hk => hn k (List.mem_cons_of_mem _ hk)
    by_cases e : f k = j
    · have e1 : mslot g f j (some k) = none := if_pos e
      rw [List.map_cons, List.map_cons, e1]
      show (o (f k)).headD 0 :: mrg (ss.map (chI f j)) (dropAt o (f k)) = (o j).headD 0 :: fillL (ss.map (mslot g f j)) (o j).tail
      rw [e]
      have e2 : dropAt o j j = (o j).tail := if_pos rfl
      rw [mrg_fill g f j n ss (dropAt o j) hn' (fun i hi hij => by
        unfold dropAt
        rw [if_neg hij, h i hi hij]
        show ((k :: ss.filterMap id).filter _).map g = _
        rw [List.filter_cons_of_neg (by simp; exact fun z => hij (by rw [← z, e]))]), e2]
    · have e1 : mslot g f j (some k) = some (g k) := if_neg e
      rw [List.map_cons, List.map_cons, e1]
      show (o (f k)).headD 0 :: mrg (ss.map (chI f j)) (dropAt o (f k)) = g k :: fillL (ss.map (mslot g f j)) (o j)
      have ho := h (f k) hk e
      have ho2 : o (f k) = g k :: ((ss.filterMap id).filter fun k' => decide (f k' = f k)).map g := by
        rw [ho]
        show ((k :: ss.filterMap id).filter _).map g = _
        rw [List.filter_cons_of_pos (by simp)]
        rfl
      have e2 : dropAt o (f k) j = o j := if_neg (Ne.symm e)
      rw [mrg_fill g f j n ss (dropAt o (f k)) hn' (fun i hi hij => by
        unfold dropAt
        by_cases z : i = f k
        · subst z
          rw [if_pos rfl, ho2]
          rfl
        · rw [if_neg z, h i hi hij]
          show ((k :: ss.filterMap id).filter _).map g = _
          rw [List.filter_cons_of_neg (by simp; exact fun y => z y.symm)]), e2, ho2]
      rfl
theorem fill_fill (g : Nat → Int) (f : Nat → Nat) (j : Nat) (sl : Option Nat → Option Int) (h0 : sl none = none) : ∀ (ss : List (Option Nat)) (R : List Int), (∀ k, some k ∈ ss → f k ≠ j → sl (some k) = some (g k)) → fillL (ss.map (mslot g f j)) (fillL ((ss.filter (inC f j)).map sl) R) = fillL (ss.map sl) R
  | [], _, _ => rfl
  | none :: ss, R, h => by
    have ih := fill_fill g f j sl h0 ss R.tail fun k hk => h k (List.mem_cons_of_mem _ hk)
    rw [List.filter_cons_of_pos rfl, List.map_cons, List.map_cons, List.map_cons, h0]
    show R.headD 0 :: fillL _ (fillL _ R.tail) = R.headD 0 :: _
    rw [ih]
  | some k :: ss, R, h => by
    have h' : ∀ k, some k ∈ ss → f k ≠ j → sl (some k) = some (g k) := fun k hk => h k (List.mem_cons_of_mem _ hk)
    by_cases e : f k = j
    · have e1 : mslot g f j (some k) = none := if_pos e
      rw [List.filter_cons_of_pos (show inC f j (some k) = true from decide_eq_true e), List.map_cons, List.map_cons, List.map_cons, e1]
      cases sl (some k) with
      | none =>
        show R.headD 0 :: fillL _ (fillL _ R.tail) = R.headD 0 :: _
        rw [fill_fill g f j sl h0 ss R.tail h']
      | some x =>
        show x :: fillL _ (fillL _ R) = x :: _
        rw [fill_fill g f j sl h0 ss R h']
    · have e1 : mslot g f j (some k) = some (g k) := if_neg e
      rw [List.filter_cons_of_neg (show ¬ inC f j (some k) = true from by show ¬ decide (f k = j) = true; simpa using e), List.map_cons, List.map_cons, e1, h k (List.mem_cons_self ..) e]
      show g k :: fillL _ (fillL _ R) = g k :: _
      rw [fill_fill g f j sl h0 ss R h']
theorem fill_vals (g : Nat → Int) (z : Int) (f : Nat → Nat) (j : Nat) : ∀ ss : List (Option Nat), fillL (ss.map (mslot g f j)) ((ss.filter (inC f j)).map (valG g z)) = ss.map (valG g z)
  | [] => rfl
  | none :: ss => by
    rw [List.filter_cons_of_pos rfl, List.map_cons, List.map_cons, List.map_cons]
    show z :: fillL _ _ = z :: _
    rw [← fill_vals g z f j ss]
    rfl
  | some k :: ss => by
    by_cases e : f k = j
    · have e1 : mslot g f j (some k) = none := if_pos e
      rw [List.filter_cons_of_pos (show inC f j (some k) = true from decide_eq_true e), List.map_cons, List.map_cons, List.map_cons, e1]
      show g k :: fillL _ _ = g k :: _
      rw [← fill_vals g z f j ss]
      rfl
    · have e1 : mslot g f j (some k) = some (g k) := if_neg e
      rw [List.filter_cons_of_neg (show ¬ inC f j (some k) = true from by show ¬ decide (f k = j) = true; simpa using e), List.map_cons, List.map_cons, e1]
      show g k :: fillL _ _ = g k :: _
      rw [← fill_vals g z f j ss]
/-! the standing of a hop: packets 0, 3, 6, .. one behind the other -/
def g3 (k : Nat) : Int := ((3 * k : Nat) : Int)
def keysQ (pa : Nat → Ad) (N : Nat) (q : Ad) : List Nat := (List.range N).filter fun k => decide (q <+: pa k)
def entQ (pa : Nat → Ad) (q : Ad) (k : Nat) : En := ([((2 * k : Nat) : Int)], itm (pa k) (g3 k) q.length)
def L0 (pa : Nat → Ad) (N : Nat) : Lns := fun q => (keysQ pa N q).map (entQ pa q)
theorem getD_repl {α : Type} (n i : Nat) (x d : α) (h : i < n) : (List.replicate n x).getD i d = x := by
  rw [List.getD_eq_getElem?_getD, List.getElem?_replicate_of_lt h]
  rfl
theorem L0_lt (pa : Nat → Ad) (N : Nat) (q : Ad) : ∀ x ∈ L0 pa N q, HT.lexLt [((2 * N : Nat) : Int)] x.1 = false := fun x hx => by
  obtain ⟨k, hk, rfl⟩ := List.mem_map.mp hx
  have := List.mem_range.mp (List.mem_filter.mp hk).1
  show HT.lexLt [((2 * N : Nat) : Int)] [((2 * k : Nat) : Int)] = false
  rw [HT.lexLt_cons, if_neg (by omega)]
  exact decide_eq_false (by omega)
theorem L0_succ (pa : Nat → Ad) (N : Nat) : pshL (pa N) (List.replicate ((pa N).length + 1) [((2 * N : Nat) : Int)]) (g3 N) (L0 pa N) = L0 pa (N + 1) := by
  funext q
  unfold pshL
  by_cases e : q <+: pa N
  · have hl := e.length_le
    rw [if_pos e, getD_repl _ _ _ _ (by omega), insE_end (L0_lt pa N q)]
    show _ = (keysQ pa (N + 1) q).map (entQ pa q)
    unfold keysQ
    rw [List.range_succ, List.filter_append, List.map_append, List.filter_cons_of_pos (by simpa using e)]
    rfl
  · rw [if_neg e]
    show _ = (keysQ pa (N + 1) q).map (entQ pa q)
    unfold keysQ
    rw [List.range_succ, List.filter_append, List.map_append, List.filter_cons_of_neg (by simpa using e)]
    show _ = _ ++ []
    rw [List.append_nil]
    rfl
theorem L0_con {T : Dt} {pa : Nat → Ad} : ∀ {N : Nat}, (∀ k, k < N → pa k ∈ lv T) → Con T (L0 pa N) ∧ ord T (L0 pa N) = (List.range N).map g3
  | 0, _ => by
    have c : Con T (L0 pa 0) := ⟨(fun q w _ _ e h => nomatch h), fun q w j _ _ => rfl⟩
    refine ⟨c, List.eq_nil_of_length_eq_zero ?_⟩
    rw [ord_length]
    rfl
  | N + 1, h => by
    obtain ⟨c, e⟩ := L0_con (N := N) fun k hk => h k (by omega)
    obtain ⟨w, h1, h2⟩ := lv_lf (h N (Nat.lt_succ_self N))
    rw [← L0_succ]
    refine ⟨pshL_con c h1 h2, ?_⟩
    rw [ord_last (pa N) T w (L0 pa N) _ (g3 N) c h1 h2 (List.length_replicate ..) (fun q hq x hx => ?_), e, List.range_succ, List.map_append]
    · rfl
    · have hl := hq.length_le
      rw [getD_repl _ _ _ _ (by omega)]
      exact L0_lt pa N q x hx
theorem itm_full {p q : Ad} {n : Int} (h : q = p) : itm p n q.length = n := by
  subst h
  unfold itm
  rw [List.getElem?_eq_none (Nat.le_refl _)]
theorem g3_div (k : Nat) : (g3 k).toNat / 3 = k := by
  unfold g3
  omega
theorem L0_ord {T v : Dt} {pa : Nat → Ad} {N : Nat} {q : Ad} (h : ∀ k, k < N → pa k ∈ lv T) (hq : sub T q = some v) : ord v (at_ q (L0 pa N)) = (keysQ pa N q).map g3 := by
  obtain ⟨c, e⟩ := L0_con h
  have f := ord_filter (fun x => decide (q <+: pa (x.toNat / 3))) q T v (L0 pa N) hq c (fun p w h1 h2 x hx => by
    obtain ⟨en, hen, rfl⟩ := List.mem_map.mp hx
    obtain ⟨k, hk, rfl⟩ := List.mem_map.mp hen
    obtain ⟨hk1, hk2⟩ := List.mem_filter.mp hk
    have hkN := List.mem_range.mp hk1
    have hpre := of_decide_eq_true hk2
    have hpl : p ∈ lv T := List.mem_filter.mpr ⟨sub_ad h1, by rw [isLf_o h1, h2]; rfl⟩
    have ep := leaf_pre (h k hkN) hpl hpre
    show decide (q <+: pa ((itm (pa k) (g3 k) p.length).toNat / 3)) = _
    rw [itm_full ep, g3_div, ep])
  show ord v (fun r => L0 pa N (q ++ r)) = _
  rw [← f, e, List.filter_map]
  unfold keysQ
  congr 1
  refine List.filter_congr fun k _ => ?_
  show decide (q <+: pa ((g3 k).toNat / 3)) = _
  rw [g3_div]
/-! where the new entry comes -/
theorem while_sorted (c : Nat) : ∀ ks : List Nat, ks.Pairwise (· < ·) → ks.takeWhile (fun k => decide (k < c)) = ks.filter (fun k => decide (k < c)) ∧ ks.dropWhile (fun k => decide (k < c)) = ks.filter (fun k => !decide (k < c))
  | [], _ => ⟨rfl, rfl⟩
  | k :: ks, h => by
    rw [List.pairwise_cons] at h
    obtain ⟨i1, i2⟩ := while_sorted c ks h.2
    by_cases e : k < c
    · rw [List.takeWhile_cons, List.dropWhile_cons, List.filter_cons, List.filter_cons, decide_eq_true e]
      exact ⟨congrArg (k :: ·) i1, i2⟩
    · rw [List.takeWhile_cons, List.dropWhile_cons, List.filter_cons, List.filter_cons, decide_eq_false e]
      refine ⟨?_, ?_⟩
      · show [] = ks.filter _
        symm
        rw [List.filter_eq_nil_iff]
        intro y hy z
        have h1 := h.1 y hy
        have h2 := of_decide_eq_true z
        omega
      · show k :: ks = k :: ks.filter _
        congr 1
        symm
        rw [List.filter_eq_self]
        intro y hy
        have h1 := h.1 y hy
        rw [decide_eq_false (by omega)]
        rfl
theorem keys_sorted (pa : Nat → Ad) (N : Nat) (q : Ad) : (keysQ pa N q).Pairwise (· < ·) := List.pairwise_lt_range.filter _
def lowQ (pa : Nat → Ad) (N c : Nat) (q : Ad) : List Nat := (keysQ pa N q).filter fun k => decide (k < c)
def highQ (pa : Nat → Ad) (N c : Nat) (q : Ad) : List Nat := (keysQ pa N q).filter fun k => !decide (k < c)
def ssQ (pa : Nat → Ad) (N c : Nat) (q : Ad) : List (Option Nat) := (lowQ pa N c q).map some ++ none :: (highQ pa N c q).map some
def rk1 (c : Nat) : List Int := [2 * (c : Int) - 1]
theorem lt_rk1 (c k : Nat) : HT.lexLt (rk1 c) [((2 * k : Nat) : Int)] = !decide (k < c) := by
  unfold rk1
  rw [HT.lexLt_cons, if_neg (by omega)]
  by_cases e : k < c
  · rw [decide_eq_true e, decide_eq_false (by omega)]
    rfl
  · rw [decide_eq_false e, decide_eq_true (by omega)]
    rfl
theorem ins_cut (pa : Nat → Ad) (N c : Nat) (q : Ad) (z : Int) : insE (L0 pa N q) (rk1 c, z) = (lowQ pa N c q).map (entQ pa q) ++ (rk1 c, z) :: (highQ pa N c q).map (entQ pa q) := by
  unfold insE
  have e : (fun x : En => !HT.lexLt (rk1 c, z).1 x.1) ∘ entQ pa q = fun k => decide (k < c) := by
    funext k
    show (!HT.lexLt (rk1 c) [((2 * k : Nat) : Int)]) = _
    rw [lt_rk1, Bool.not_not]
  obtain ⟨w1, w2⟩ := while_sorted c _ (keys_sorted pa N q)
  show ((keysQ pa N q).map (entQ pa q)).takeWhile _ ++ _ :: ((keysQ pa N q).map (entQ pa q)).dropWhile _ = _
  rw [List.takeWhile_map, List.dropWhile_map, e, w1, w2]
  rfl
theorem ss_keys (pa : Nat → Ad) (N c : Nat) (q : Ad) : (ssQ pa N c q).filterMap id = keysQ pa N q := by
  have e : ∀ l : List Nat, (l.map some).filterMap id = l := fun l => by
    rw [List.filterMap_map]
    exact List.filterMap_some
  obtain ⟨w1, w2⟩ := while_sorted c _ (keys_sorted pa N q)
  unfold ssQ lowQ highQ
  rw [List.filterMap_append, e, List.filterMap_cons_none rfl, e, ← w1, ← w2, List.takeWhile_append_dropWhile]
theorem ss_mem {pa : Nat → Ad} {N c : Nat} {q : Ad} {k : Nat} (h : some k ∈ ssQ pa N c q) : k < N ∧ q <+: pa k := by
  have h1 : k ∈ keysQ pa N q := by
    rw [← ss_keys pa N c q]
    exact List.mem_filterMap.mpr ⟨some k, h, rfl⟩
  obtain ⟨h2, h3⟩ := List.mem_filter.mp h1
  exact ⟨List.mem_range.mp h2, of_decide_eq_true h3⟩
def fQ (pa : Nat → Ad) (q : Ad) (k : Nat) : Nat := (pa k).getD q.length 0
theorem pre_snoc {q p : Ad} {j : Nat} (h : q <+: p) (hl : q.length < p.length) : (q ++ [j] <+: p) ↔ p.getD q.length 0 = j := by
  obtain ⟨s, rfl⟩ := h
  cases s with
  | nil => simp at hl
  | cons i s =>
    rw [List.prefix_append_right_inj, List.cons_prefix_cons]
    have : (q ++ i :: s).getD q.length 0 = i := by
      rw [List.getD_eq_getElem?_getD, List.getElem?_append_right (Nat.le_refl _), Nat.sub_self]
      rfl
    rw [this]
    exact ⟨fun z => z.1.symm, fun z => ⟨z.symm, List.nil_prefix ..⟩⟩
theorem snoc_pre {q p : Ad} {j : Nat} (h : q ++ [j] <+: p) : q <+: p := (List.prefix_append ..).trans h
theorem keys_kid {pa : Nat → Ad} {N : Nat} {q : Ad} (hl : ∀ k, k < N → q <+: pa k → q.length < (pa k).length) (j : Nat) : keysQ pa N (q ++ [j]) = (keysQ pa N q).filter fun k => decide (fQ pa q k = j) := by
  unfold keysQ
  rw [List.filter_filter]
  refine List.filter_congr fun k hk => ?_
  have hkN := List.mem_range.mp hk
  by_cases e : q <+: pa k
  · rw [decide_eq_true e, Bool.and_true]
    exact decide_eq_decide.mpr (pre_snoc e (hl k hkN e))
  · rw [decide_eq_false e, Bool.and_false]
    exact decide_eq_false fun z => e (snoc_pre z)
theorem ss_kid {pa : Nat → Ad} {N : Nat} {q : Ad} (hl : ∀ k, k < N → q <+: pa k → q.length < (pa k).length) (c j : Nat) : ssQ pa N c (q ++ [j]) = (ssQ pa N c q).filter (inC (fQ pa q) j) := by
  unfold ssQ lowQ highQ
  rw [keys_kid hl, List.filter_append, List.filter_cons_of_pos rfl, List.filter_map, List.filter_map, List.filter_filter, List.filter_filter, List.filter_filter, List.filter_filter]
  have e : ∀ (P : Nat → Bool), ((fun k => decide (k < c) : Nat → Bool) = P ∨ (fun k => !decide (k < c) : Nat → Bool) = P) → (keysQ pa N q).filter (fun a => P a && decide (fQ pa q a = j)) = (keysQ pa N q).filter (fun a => (inC (fQ pa q) j ∘ some) a && P a) := fun P _ => List.filter_congr fun k _ => by
    show (P k && decide (fQ pa q k = j)) = (decide (fQ pa q k = j) && P k)
    rw [Bool.and_comm]
  rw [e _ (.inl rfl), e _ (.inr rfl)]
theorem at_off {q pq : Ad} {rs : List (List Int)} {n : Int} {L : Lns} (h : ¬ q <+: pq) : at_ q (pshL pq rs n L) = at_ q L := by
  funext r
  show pshL pq rs n L (q ++ r) = L (q ++ r)
  unfold pshL
  rw [if_neg fun z => h ((List.prefix_append ..).trans z)]
section
variable {T : Dt} {pa : Nat → Ad} {N m e l : Nat} {pq : Ad} {rs : List (List Int)} {n : Int}
theorem len_kid {q : Ad} {v : Dt} (h : ∀ k, k < N → pa k ∈ lv T) (hq : sub T q = some v) (hv : v.len ≠ 0) : ∀ k, k < N → q <+: pa k → q.length < (pa k).length ∧ fQ pa q k < v.len := fun k hk hp => by
  obtain ⟨s, hs⟩ := hp
  obtain ⟨w, h1, h2⟩ := lv_lf (h k hk)
  rw [← hs, (sub_app T q v hq s).1] at h1
  cases s with
  | nil =>
    rw [sub_nil] at h1
    obtain rfl := Option.some.inj h1
    exact absurd h2 hv
  | cons i s =>
    obtain ⟨k', hk', _⟩ := sub_len h1
    refine ⟨by rw [← hs]; simp, ?_⟩
    have : fQ pa q k = i := by
      unfold fQ
      rw [← hs, List.getD_eq_getElem?_getD, List.getElem?_append_right (Nat.le_refl _), Nat.sub_self]
      rfl
    rw [this]
    exact kid_lt hk'
/-- one node of a pushed path: the child that is pushed to fills what is left open -/
theorem ord_step {q : Ad} {v : Dt} {j c : Nat} {s : Ad} (h : ∀ k, k < N → pa k ∈ lv T) (hpq : pq = q ++ j :: s) (hq : sub T q = some v) (hv : v.len ≠ 0) (hr : rs.getD q.length [] = rk1 c) : ord v (at_ q (pshL pq rs n (L0 pa N))) = fillL ((ssQ pa N c q).map (mslot g3 (fQ pa q) j)) (ordC v (at_ q (pshL pq rs n (L0 pa N))) j) := by
  have hlk := len_kid h hq hv
  have epre : q <+: pq := by rw [hpq]; exact List.prefix_append ..
  rw [ord_fork hv]
  have e1 : at_ q (pshL pq rs n (L0 pa N)) [] = insE (L0 pa N q) (rk1 c, ((j : Nat) : Int)) := by
    show pshL pq rs n (L0 pa N) (q ++ []) = _
    rw [List.append_nil]
    unfold pshL
    rw [if_pos epre, hr]
    congr 2
    unfold itm
    rw [hpq, List.getElem?_append_right (Nat.le_refl _), Nat.sub_self]
    rfl
  have ent : ∀ k, k < N → q <+: pa k → (entQ pa q k).2.toNat = fQ pa q k := fun k hk hp => by
    have hl := (hlk k hk hp).1
    show (itm (pa k) (g3 k) q.length).toNat = (pa k).getD q.length 0
    unfold itm
    rw [List.getD_eq_getElem?_getD, List.getElem?_eq_getElem hl]
    rfl
  have e2 : chs (insE (L0 pa N q) (rk1 c, ((j : Nat) : Int))) = (ssQ pa N c q).map (chI (fQ pa q) j) := by
    rw [ins_cut]
    unfold chs ssQ
    rw [List.map_append, List.map_cons, List.map_map, List.map_map, List.map_append, List.map_cons, List.map_map, List.map_map]
    have mem : ∀ P : Nat → Bool, ((keysQ pa N q).filter P).map ((fun e : En => e.2.toNat) ∘ entQ pa q) = ((keysQ pa N q).filter P).map (chI (fQ pa q) j ∘ some) := fun P => by
      refine List.map_congr_left fun k hk => ?_
      obtain ⟨h1, h2⟩ := List.mem_filter.mp (List.mem_filter.mp hk).1
      exact ent k (List.mem_range.mp h1) (of_decide_eq_true h2)
    unfold lowQ highQ
    rw [mem, mem]
    rfl
  rw [e1, e2]
  refine mrg_fill g3 (fQ pa q) j v.len _ _ (fun k hk => ?_) (fun i hi hij => ?_)
  · obtain ⟨h1, h2⟩ := ss_mem hk
    exact (hlk k h1 h2).2
  · obtain ⟨k', hk'⟩ := kid_of hi
    rw [ordC_at hk', sh_at, at_off (by
      rw [hpq, List.prefix_append_right_inj, List.cons_prefix_cons]
      exact fun z => hij z.1), L0_ord h (by rw [(sub_app T q v hq [i]).1, sub_one, hk']), keys_kid (fun k h1 h2 => (hlk k h1 h2).1), ss_keys]
/-- beneath where they meet -/
theorem ord_below (h : ∀ k, k < N → pa k ∈ lv T) (hl : pq ∈ lv T) (hr : ∀ i, m < i → i ≤ pq.length → rs.getD i [] = rk1 e) : ∀ (s q : Ad) (v : Dt), pq = q ++ s → m < q.length → sub T q = some v → ord v (at_ q (pshL pq rs n (L0 pa N))) = (ssQ pa N e q).map (valG g3 n)
  | [], q, v, hpq, hm, hq => by
    rw [List.append_nil] at hpq
    subst hpq
    obtain ⟨w, h1, h2⟩ := lv_lf hl
    rw [hq] at h1
    obtain rfl := Option.some.inj h1
    rw [ord_leaf h2]
    show its (pshL pq rs n (L0 pa N) (pq ++ [])) = _
    rw [List.append_nil]
    unfold pshL
    rw [if_pos (List.prefix_refl _), hr _ hm (Nat.le_refl _), ins_cut]
    unfold its ssQ
    rw [List.map_append, List.map_cons, List.map_map, List.map_map, List.map_append, List.map_cons, List.map_map, List.map_map]
    have mem : ∀ P : Nat → Bool, ((keysQ pa N pq).filter P).map ((fun e : En => e.2) ∘ entQ pa pq) = ((keysQ pa N pq).filter P).map (valG g3 n ∘ some) := fun P => by
      refine List.map_congr_left fun k hk => ?_
      obtain ⟨h1, h2⟩ := List.mem_filter.mp (List.mem_filter.mp hk).1
      have := leaf_pre (h k (List.mem_range.mp h1)) hl (of_decide_eq_true h2)
      exact itm_full this
    unfold lowQ highQ
    rw [mem, mem]
    show _ ++ itm pq n pq.length :: _ = _
    rw [itm_full rfl]
    rfl
  | j :: s, q, v, hpq, hm, hq => by
    obtain ⟨w, h1, h2⟩ := lv_lf hl
    rw [hpq, (sub_app T q v hq (j :: s)).1] at h1
    obtain ⟨k, hk, _⟩ := sub_len h1
    have hv : v.len ≠ 0 := by have := kid_lt hk; omega
    have hql : q.length ≤ pq.length := by rw [hpq]; simp
    rw [ord_step h hpq hq hv (hr _ hm hql), ordC_at hk, sh_at, ord_below h hl hr s (q ++ [j]) k (by rw [hpq, List.append_assoc]; rfl) (by simp; omega) (by rw [(sub_app T q v hq [j]).1, sub_one, hk]), ss_kid (fun k h1 h2 => (len_kid h hq hv k h1 h2).1), fill_vals]
def slH (pa : Nat → Ad) (c : Ad) : Option Nat → Option Int | some k => if c <+: pa k then none else some (g3 k) | none => none
/-- from where they meet up -/
theorem ord_above (h : ∀ k, k < N → pa k ∈ lv T) (hl : pq ∈ lv T) (hm : m < pq.length) (hr : ∀ i, m < i → i ≤ pq.length → rs.getD i [] = rk1 e) (hr0 : ∀ i, i ≤ m → rs.getD i [] = rk1 (l + 1)) : ∀ (s q : Ad) (v : Dt), pq = q ++ s → q.length ≤ m → sub T q = some v →
    ord v (at_ q (pshL pq rs n (L0 pa N))) = fillL ((ssQ pa N (l + 1) q).map (slH pa (pq.take (m + 1)))) ((ssQ pa N e (pq.take (m + 1))).map (valG g3 n))
  | [], q, v, hpq, hq0, hq => by
    rw [List.append_nil] at hpq
    rw [hpq] at hm
    omega
  | j :: s, q, v, hpq, hq0, hq => by
    obtain ⟨w, h1, h2⟩ := lv_lf hl
    rw [hpq, (sub_app T q v hq (j :: s)).1] at h1
    obtain ⟨k, hk, _⟩ := sub_len h1
    have hv : v.len ≠ 0 := by have := kid_lt hk; omega
    have hql : q.length ≤ pq.length := by rw [hpq]; simp
    have hlk : ∀ k, k < N → q <+: pa k → q.length < (pa k).length := fun k h1 h2 => (len_kid h hq hv k h1 h2).1
    have hpq' : pq = (q ++ [j]) ++ s := by rw [hpq, List.append_assoc]; rfl
    have hq' : sub T (q ++ [j]) = some k := by rw [(sub_app T q v hq [j]).1, sub_one, hk]
    rw [ord_step h hpq hq hv (hr0 _ hq0), ordC_at hk, sh_at]
    by_cases em : q.length = m
    · have ec : pq.take (m + 1) = q ++ [j] := by
        rw [hpq', ← em, show q.length + 1 = (q ++ [j]).length by simp, List.take_left]
      rw [ord_below h hl hr s (q ++ [j]) k hpq' (by simp; omega) hq', ec]
      congr 1
      refine List.map_congr_left fun o ho => ?_
      cases o with
      | none => rfl
      | some k =>
        obtain ⟨g1, g2⟩ := ss_mem ho
        show (if fQ pa q k = j then none else some (g3 k)) = if q ++ [j] <+: pa k then none else some (g3 k)
        have := pre_snoc (j := j) g2 (hlk k g1 g2)
        by_cases z : fQ pa q k = j
        · rw [if_pos z, if_pos (this.mpr z)]
        · rw [if_neg z, if_neg fun y => z (this.mp y)]
    · rw [ord_above h hl hm hr hr0 s (q ++ [j]) k hpq' (by simp; omega) hq', ss_kid hlk]
      refine fill_fill g3 (fQ pa q) j (slH pa (pq.take (m + 1))) rfl _ _ fun k hk0 hne => ?_
      obtain ⟨g1, g2⟩ := ss_mem hk0
      refine if_neg fun z => hne ((pre_snoc g2 (hlk k g1 g2)).mp ?_)
      refine List.IsPrefix.trans ?_ z
      rw [hpq', List.prefix_take_iff]
      exact ⟨List.prefix_append .., by simp; omega⟩
end
end K27
set_option Elab.async false
set_option linter.all false
set_option maxRecDepth 100000
set_option maxHeartbeats 8000000
namespace K27
open PySem PySem.Spec PyProof.Rows L2 Dt
/-! ### the law's own tree: mathematics -/
theorem valV_putG {κ : Type} [DecidableEq κ] (k k' : κ) (v : V) (kvs : List (κ × V)) : valV (putK kvs k v) k' = if k' = k then some v else valV kvs k' := by
  unfold putK
  by_cases h : (kvs.any fun kv => decide (kv.1 = k)) = true
  · rw [if_pos h]
    revert h
    induction kvs with
    | nil => exact fun h => nomatch h
    | cons e kvs ih =>
      obtain ⟨k0, v0⟩ := e
      intro h
      unfold valV
      rw [List.map_cons]
      by_cases e : k0 = k
      · subst e
        dsimp only
        rw [if_pos rfl]
        by_cases z : k' = k0
        · subst z
          rw [if_pos rfl, List.find?_cons_of_pos (by simp)]
          rfl
        · rw [if_neg z, List.find?_cons_of_neg (by simpa using Ne.symm z), List.find?_cons_of_neg (by simpa using Ne.symm z)]
          have : ∀ l : List (κ × V), (l.map fun kv => if kv.1 = k0 then (kv.1, v) else kv).find? (fun kv => decide (kv.1 = k')) = l.find? (fun kv => decide (kv.1 = k')) := by
            intro l
            induction l with
            | nil => rfl
            | cons y l ih2 =>
              rw [List.map_cons]
              by_cases q : y.1 = k0
              · rw [if_pos q, List.find?_cons_of_neg (by simp [q]; exact Ne.symm z), List.find?_cons_of_neg (by simp [q]; exact Ne.symm z), ih2]
              · rw [if_neg q]
                by_cases q2 : y.1 = k'
                · rw [List.find?_cons_of_pos (by simpa using q2), List.find?_cons_of_pos (by simpa using q2)]
                · rw [List.find?_cons_of_neg (by simpa using q2), List.find?_cons_of_neg (by simpa using q2), ih2]
          rw [this]
      · dsimp only
        rw [if_neg e]
        rw [List.any_cons, decide_eq_false e, Bool.false_or] at h
        have ih := ih h
        unfold valV at ih
        by_cases z : k0 = k'
        · subst z
          rw [List.find?_cons_of_pos (by simp), List.find?_cons_of_pos (by simp), if_neg e]
        · rw [List.find?_cons_of_neg (by simpa using z), List.find?_cons_of_neg (by simpa using z), ih]
  · rw [if_neg h]
    unfold valV
    rw [List.find?_append]
    by_cases z : k' = k
    · subst z
      rw [if_pos rfl]
      have : kvs.find? (fun kv => decide (kv.1 = k')) = none := by
        rw [List.find?_eq_none]
        intro y hy q
        exact h (List.any_eq_true.mpr ⟨y, hy, q⟩)
      rw [this]
      simp
    · rw [if_neg z]
      have : ([(k, v)] : List (κ × V)).find? (fun kv => decide (kv.1 = k')) = none := by
        rw [List.find?_cons_of_neg (by simpa using Ne.symm z)]
        rfl
      rw [this, Option.or_none]
def upI (T : Dt) (q : Ad) : Int := if q = [] then -1 else (T.idx q.dropLast : Nat)
def whI (q : Ad) : Int := match q.getLast? with | some i => (i : Nat) | none => 0
theorem upI_snoc (T : Dt) (q : Ad) (j : Nat) : upI T (q ++ [j]) = (T.idx q : Nat) := by
  unfold upI
  rw [if_neg (by simp), List.dropLast_concat]
theorem whI_snoc (q : Ad) (j : Nat) : whI (q ++ [j]) = (j : Nat) := by
  unfold whI
  rw [List.getLast?_concat]
def keyK (T : Dt) (q : Ad) : List Key := [Sum.inl (upI T q), Sum.inl (whI q)]
theorem key_inj {T : Dt} {p q : Ad} (hp : p ∈ ad T) (hq : q ∈ ad T) (h : keyK T p = keyK T q) : p = q := by
  unfold keyK at h
  injection h with h1 h2
  injection h2 with h2 _
  have h1 := Sum.inl.inj h1
  have h2 := Sum.inl.inj h2
  rcases List.eq_nil_or_concat p with rfl | ⟨p', i, rfl⟩
  · rcases List.eq_nil_or_concat q with rfl | ⟨q', j, rfl⟩
    · rfl
    · rw [List.concat_eq_append, upI_snoc] at h1
      unfold upI at h1
      rw [if_pos rfl] at h1
      omega
  · rcases List.eq_nil_or_concat q with rfl | ⟨q', j, rfl⟩
    · rw [List.concat_eq_append, upI_snoc] at h1
      unfold upI at h1
      rw [if_pos rfl] at h1
      omega
    · simp only [List.concat_eq_append] at hp hq h1 h2 ⊢
      rw [upI_snoc, upI_snoc] at h1
      rw [whI_snoc, whI_snoc] at h2
      have e := idx_inj (pre_ad hp (List.prefix_append ..)) (pre_ad hq (List.prefix_append ..)) (by omega)
      have e2 : i = j := by omega
      rw [e, e2]
/-- all nodes beneath those that wait -/
def pblk (T : Dt) : List Ad → List Ad
  | [] => []
  | q :: r => (match sub T q with | some u => (ad u).map (q ++ ·) | none => []) ++ pblk T r
theorem pblk_app (T : Dt) : ∀ a b : List Ad, pblk T (a ++ b) = pblk T a ++ pblk T b
  | [], _ => rfl
  | q :: a, b => by
    show _ ++ pblk T (a ++ b) = (_ ++ pblk T a) ++ pblk T b
    rw [pblk_app T a b, List.append_assoc]
def kidsA (q : Ad) (n : Nat) : List Ad := (List.range n).map fun j => q ++ [j]
theorem pblk_kids {T u : Dt} {q : Ad} (h : sub T q = some u) : ∀ n, n ≤ u.len → pblk T (kidsA q n) = (rowsN ad u n).map (q ++ ·)
  | 0, _ => rfl
  | n + 1, hn => by
    obtain ⟨k, hk⟩ := kid_of (show n < u.len by omega)
    unfold kidsA
    rw [List.range_succ, List.map_append, pblk_app]
    have ih := pblk_kids h n (by omega)
    unfold kidsA at ih
    rw [ih, rowsN_succ ad hk q]
    have e : sub T (q ++ [n]) = some k := by
      rw [(sub_app T q u h [n]).1, sub_one, hk]
    show _ ++ ((match sub T (q ++ [n]) with | some u => (ad u).map ((q ++ [n]) ++ ·) | none => []) ++ []) = _
    rw [e, List.append_nil]
theorem pblk_pop {T u : Dt} {q : Ad} {r : List Ad} (h : sub T q = some u) : pblk T (q :: r) = q :: pblk T (kidsA q u.len ++ r) := by
  rw [pblk_app, pblk_kids h _ (Nat.le_refl _)]
  show (match sub T q with | some u => (ad u).map (q ++ ·) | none => []) ++ _ = _
  rw [h]
  show (([] :: adF u).map (q ++ ·)) ++ pblk T r = _
  rw [List.map_cons, List.append_nil, adF_rows]
  rfl
theorem pblk_ne {T : Dt} {pend : List Ad} (h : ∀ q ∈ pend, ∃ u, sub T q = some u) (e : pblk T pend = []) : pend = [] := by
  cases pend with
  | nil => rfl
  | cons q r =>
    obtain ⟨u, hu⟩ := h q (List.mem_cons_self ..)
    rw [pblk_pop hu] at e
    exact nomatch e
end K27
set_option Elab.async false
set_option linter.all false
set_option maxRecDepth 100000
set_option maxHeartbeats 8000000
namespace K27
open PySem PySem.Spec PyProof.Rows L2 Dt
/-! ### _law_tree -/
theorem len_idx : ∀ (T : Dt) (q : Ad) (u : Dt), sub T q = some u → q.length ≤ T.idx q
  | _, [], _, _ => Nat.zero_le _
  | .x, j :: p, _, h => by rw [sub_x] at h; exact nomatch h
  | .o, j :: p, _, h => by rw [sub_o] at h; exact nomatch h
  | .c k r, 0 :: p, u, h => by
    rw [sub_c0] at h
    rw [idx_c0]
    have := len_idx k p u h
    show p.length + 1 ≤ _
    omega
  | .c k r, (j + 1) :: p, u, h => by
    rw [sub_cs] at h
    rw [idx_cs]
    have := len_idx r (j :: p) u h
    have : p.length + 1 ≤ r.idx (j :: p) := this
    show p.length + 1 ≤ _
    omega
theorem putK_leG {κ : Type} [DecidableEq κ] (kv : List (κ × V)) (k : κ) (v : V) : (putK kv k v).length ≤ kv.length + 1 := by
  unfold putK
  split
  · rw [List.length_map]
    omega
  · rw [List.length_append]
    exact Nat.le_refl _
theorem kids_rev (q : Ad) (n : Nat) : (kidsA q n).reverse = (List.range n).map fun k => q ++ [n - 1 - k] := by
  unfold kidsA
  refine List.ext_getElem? fun i => ?_
  by_cases h : i < n
  · rw [List.getElem?_reverse (by rw [List.length_map, List.length_range]; exact h), List.length_map, List.length_range, List.getElem?_map, List.getElem?_map, List.getElem?_range h, List.getElem?_range (by omega)]
    rfl
  · rw [List.getElem?_eq_none (by rw [List.length_reverse, List.length_map, List.length_range]; omega), List.getElem?_eq_none (by rw [List.length_map, List.length_range]; omega)]
theorem Paired.app3 {α β : Type} {F : α → β → Prop} : ∀ {a : List α} {b : List β} {a' : List α} {b' : List β}, Paired F a b → Paired F a' b' → Paired F (a ++ a') (b ++ b')
  | _, _, _, _, .nil, h => h
  | _, _, _, _, .cons r t, h => .cons r (Paired.app3 t h)
theorem Paired.un {α β : Type} {F : α → β → Prop} : ∀ {b : List β} {a : List α} {y : β}, Paired F a (b ++ [y]) → ∃ a' x, a = a' ++ [x] ∧ Paired F a' b ∧ F x y
  | [], _, _, .cons r t => by
    cases t
    exact ⟨[], _, rfl, .nil, r⟩
  | z :: b, _, y, .cons r t => by
    obtain ⟨a', x, rfl, h1, h2⟩ := Paired.un t
    exact ⟨_ :: a', x, rfl, .cons r h1, h2⟩
theorem Paired.lenE {α β : Type} {F : α → β → Prop} : ∀ {a : List α} {b : List β}, Paired F a b → a.length = b.length
  | _, _, .nil => rfl
  | _, _, .cons _ t => congrArg (· + 1) (Paired.lenE t)
theorem Paired.weak {α β : Type} {F G : α → β → Prop} (h : ∀ x y, F x y → G x y) : ∀ {a : List α} {b : List β}, Paired F a b → Paired G a b
  | _, _, .nil => .nil
  | _, _, .cons r t => .cons (h _ _ r) (Paired.weak h t)
theorem Paired.idx {α β : Type} {F : α → β → Prop} : ∀ {a : List α} {b : List β}, Paired F a b → ∀ {i : Nat} {y : β}, b[i]? = some y → ∃ x, a[i]? = some x ∧ F x y
  | _, _, .nil, i, y, h => by simp at h
  | _, _, .cons r t, 0, y, h => ⟨_, rfl, by have : _ = y := Option.some.inj h; subst this; exact r⟩
  | _, _, .cons r t, i + 1, y, h => by
    obtain ⟨x, h1, h2⟩ := Paired.idx t (i := i) (y := y) (by simpa using h)
    exact ⟨x, by simpa using h1, h2⟩
end K27
set_option Elab.async false
set_option linter.all false
set_option maxRecDepth 100000
set_option maxHeartbeats 8000000
namespace K27
open PySem PySem.Spec PyProof.Rows L2 Dt
/-! ### _law_common, _law_due, _law_is -/
def intsN (p : Ad) : List V := p.map fun i => V.int (i : Nat)
theorem intsN_len (p : Ad) : (intsN p).length = p.length := List.length_map ..
theorem intsN_at {p : Ad} {k : Nat} (h : k < p.length) : (intsN p)[k]? = some (.int ((p[k]'h : Nat) : Int)) := by
  unfold intsN
  rw [List.getElem?_map, List.getElem?_eq_getElem h]
  rfl
theorem deqT {a b : Nat} (h : a = b) : decide (V.int ((a : Nat) : Int) = V.int ((b : Nat) : Int)) = true := decide_eq_true (by rw [h])
theorem deqF {a b : Nat} (h : a ≠ b) : decide (V.int ((a : Nat) : Int) = V.int ((b : Nat) : Int)) = false := decide_eq_false fun z => h (by
  injection z with z
  omega)
theorem lcp_comm : ∀ p q : Ad, lcp p q = lcp q p
  | [], [] => rfl
  | [], _ :: _ => rfl
  | _ :: _, [] => rfl
  | i :: p, j :: q => by
    show (if i = j then lcp p q + 1 else 0) = if j = i then lcp q p + 1 else 0
    by_cases e : i = j
    · subst e
      rw [if_pos rfl, if_pos rfl, lcp_comm p q]
    · rw [if_neg e, if_neg (Ne.symm e)]
/-- the paths of the queues -/
def PathsT (K : PySem.W.Frag) (H : Hp) (pl : Addr) (T : Dt) : Prop := ∃ ps, H pl = some (.lst ps) ∧ Paired (fun v p => ∃ b, v = V.ref b ∧ SqT K H b (intsN p)) ps (lv T)
theorem PathsT.same {K : PySem.W.Frag} {H H' : Hp} {pl : Addr} {T : Dt} (h : PathsT K H pl T) (e : Same H H') : PathsT K H' pl T := by
  obtain ⟨ps, h1, h2⟩ := h
  exact ⟨ps, e _ _ h1, Paired.mono (fun v p z => by
    obtain ⟨b, z1, z2⟩ := z
    exact ⟨b, z1, same_sqt e z2⟩) h2⟩
theorem PathsT.at {K : PySem.W.Frag} {H : Hp} {pl : Addr} {T : Dt} (h : PathsT K H pl T) : ∃ ps, H pl = some (.lst ps) ∧ ps.length = T.lf ∧ ∀ (i : Nat) p, (lv T)[i]? = some p → ∃ b, ps[i]? = some (.ref b) ∧ SqT K H b (intsN p) := by
  obtain ⟨ps, h1, h2⟩ := h
  refine ⟨ps, h1, Paired.lenE h2, fun i p hi => ?_⟩
  obtain ⟨v, e1, b, rfl, e2⟩ := Paired.idx h2 hi
  exact ⟨b, e1, e2⟩
def spCommon (K : PySem.W.Frag) : Sp := fun vs H Q _ => ∃ (a b : Addr) (p q : Ad), vs = [.ref a, .ref b] ∧ SqT K H a (intsN p) ∧ SqT K H b (intsN q) ∧ p.length ≤ 1000 ∧ q.length ≤ 1000 ∧ Q (.int (lcp p q : Nat)) H
def spDue (K : PySem.W.Frag) : Sp := fun vs H Q _ => ∃ (pl : Addr) (T : Dt) (i j k : Nat) (p q1 q2 : Ad), vs = [.ref pl, .int (i : Nat), .int (j : Nat), .int (k : Nat)] ∧ PathsT K H pl T ∧ T.ht < 20 ∧ (lv T)[i]? = some p ∧ (lv T)[j]? = some q1 ∧ (lv T)[k]? = some q2 ∧ Q (.bl (mayB p q1 q2)) H
def spIs : Sp := fun vs H Q _ => ∃ b : Bool, vs = [.bl b, .bl b] ∧ Q (.bl true) H
theorem due_may {T : Dt} {p q1 q2 : Ad} (h1 : q1 ∈ lv T) (h2 : q2 ∈ lv T) (ne : q1 ≠ q2) : mayB p q1 q2 = ((decide (p = q1) || decide (lcp q1 q2 < lcp p q1)) || (decide (p = q2) || decide (lcp q1 q2 < lcp p q2))) := by
  obtain ⟨l1, l2⟩ := lcp_leaf h1 h2 ne
  unfold mayB
  rw [decide_eq_false ne, Bool.not_false, Bool.true_and]
  have go : ∀ q : Ad, lcp q1 q2 < q.length → decide (q.take (lcp q1 q2 + 1) <+: p) = (decide (p = q) || decide (lcp q1 q2 < lcp p q)) := fun q hq => by
    have e := lcp_pre q p (lcp q1 q2 + 1) hq
    have e2 : decide (q.take (lcp q1 q2 + 1) <+: p) = decide (lcp q1 q2 < lcp p q) := decide_eq_decide.mpr (e.trans (by rw [lcp_comm q p]; exact Iff.rfl))
    rw [e2]
    by_cases c : p = q
    · subst c
      have hl := (lcp_pre p p p.length (Nat.le_refl _)).mp (by rw [List.take_length]; exact List.prefix_refl _)
      rw [decide_eq_true rfl, Bool.true_or]
      exact decide_eq_true (by omega)
    · rw [decide_eq_false c, Bool.false_or]
  rw [go q1 l1, go q2 l2]
section
variable {P : Program} {w : World} {K : PySem.W.Frag} {mg : Str → Option Value} {base : Heap} {C U fG : Addr}
theorem ok_common (D : DefAt K mg "_law_common" s_law_common ["one", "other"]) (T0 : Txt K mg) : CalX P w K mg base CX0 1 "_law_common" ["one", "other"] (spCommon K) := by
  refine D.ok sc_law_common (fun vs H Q E h => ?_) (fun f cdv A outer s H vs Q E hr h => ?_)
  · obtain ⟨a, b, p, q, rfl, _⟩ := h
    rfl
  obtain ⟨a, b, p, q, rfl, ha, hb, hp, hq, qq⟩ := h
  refine ⟨_, (pss_cons (ps_for PassesOwn.never rfl (pi_range1 (by rfl) T0.range (pa_cons (pe_callB (call_min2 rfl) (by rfl) T0.min (by decide +kernel) (pa_cons (pe_callB call_len_seq (by rfl) T0.len PySem.boot_len (pa_cons (pv 0) pa_nil)) (pa_cons (pe_callB call_len_seq (by rfl) T0.len PySem.boot_len (pa_cons (pv 1) pa_nil)) pa_nil))) pa_nil)) (pg_name (i := 2) sc_law_common.nd rfl (Or.inl rfl)) 
      (pss_one (ps_if (pt_cmpR op_ne (pe_ix ix_tup (pv 0) (pv 2) (fun _ _ => rfl)) (pe_ix ix_tup (pv 1) (pv 2) (fun _ _ => rfl)) (nomark _)) 
        (pss_one (ps_ret (pv 2))) pss_nil))) 
    (pss_one (ps_ret (pe_callB (call_min2 rfl) (by rfl) T0.min (by decide +kernel) (pa_cons (pe_callB call_len_seq (by rfl) T0.len PySem.boot_len (pa_cons (pv 0) pa_nil)) (pa_cons (pe_callB call_len_seq (by rfl) T0.len PySem.boot_len (pa_cons (pv 1) pa_nil)) pa_nil)))))), ?_⟩
  have hl := lcp_le p q
  have mn : (if ((intsN q).length : Int) < ((intsN p).length : Int) then ((intsN q).length : Int) else ((intsN p).length : Int)) = ((min p.length q.length : Nat) : Int) := by
    rw [intsN_len, intsN_len]
    split <;> omega
  refine ⟨_, rfl, a, _, rfl, .inr ha, _, rfl, b, _, rfl, .inr hb, _, _, rfl, ?_⟩
  rw [mn]
  refine ⟨_, rfl, by omega, by omega, for_range (lo := 0) (n := min p.length q.length) (fun k σ H' => ∃ o, σ = [some (.ref a), some (.ref b), o] ∧ H' = H ∧ k ≤ lcp p q) ⟨_, rfl, rfl, Nat.zero_le _⟩ ?_ ?_⟩
  · rintro k σ H' hk ⟨o, rfl, rfl, hkl⟩
    have e0 : (0 + (k : Int)) = ((k : Nat) : Int) := Int.zero_add _
    have hkp : k < p.length := by omega
    have hkq : k < q.length := by omega
    rw [e0]
    refine ⟨_, rfl, _, rfl, a, _, _, _, rfl, rfl, ha, atI_nat (intsN_at hkp), _, rfl, _, rfl, b, _, _, _, rfl, rfl, hb, atI_nat (intsN_at hkq), rfl, _, rfl, ?_⟩
    have hpre : p.take k <+: q := (lcp_pre p q k (by omega)).mpr hkl
    have htk : p.take k = q.take k := by
      have := List.prefix_iff_eq_take.mp hpre
      rwa [List.length_take, Nat.min_eq_left (by omega)] at this
    by_cases e : p[k] = q[k]
    · rw [deqT e]
      refine iteF ?_
      refine ⟨_, rfl, rfl, (lcp_pre p q (k + 1) hkp).mp ?_⟩
      have : p.take (k + 1) = q.take (k + 1) := by
        rw [List.take_succ_eq_append_getElem hkp, List.take_succ_eq_append_getElem hkq, htk, e]
      rw [this]
      exact List.take_prefix ..
    · rw [deqF e]
      refine iteT ?_
      have : lcp p q = k := lcp_first p q k (by omega) (by rw [List.getElem?_eq_getElem hkp, List.getElem?_eq_getElem hkq]; exact fun z => e (Option.some.inj z)) hpre
      rw [this] at qq
      exact ⟨_, rfl, qq⟩
  · rintro σ H' ⟨o, rfl, rfl, hkl⟩
    refine ⟨_, rfl, a, _, rfl, .inr ha, _, rfl, b, _, rfl, .inr hb, _, _, rfl, ?_⟩
    rw [mn]
    have : lcp p q = min p.length q.length := by omega
    rw [this] at qq
    exact qq
theorem ok_due (D : DefAt K mg "_law_due" s_law_due ["paths", "queue", "one", "other"]) (T0 : Txt K mg) (GCommon : CalX P w K mg base CX0 1 "_law_common" ["one", "other"] (spCommon K)) : CalX P w K mg base CX0 2 "_law_due" ["paths", "queue", "one", "other"] (spDue K) := by
  refine D.ok sc_law_due (fun vs H Q E h => ?_) (fun f cdv A outer s H vs Q E hr h => ?_)
  · obtain ⟨pl, T, i, j, k, p, q1, q2, rfl, _⟩ := h
    rfl
  obtain ⟨pl, T, i, j, k, p, q1, q2, rfl, hP, hht, hi, hj, hk, qq⟩ := h
  obtain ⟨ps, hpl, hpn, hat⟩ := hP.at
  obtain ⟨bi, hi1, hi2⟩ := hat i p hi
  obtain ⟨bj, hj1, hj2⟩ := hat j q1 hj
  obtain ⟨bk, hk1, hk2⟩ := hat k q2 hk
  have li : p.length ≤ 1000 := by have := ht_path (List.mem_of_getElem? hi); omega
  have lj : q1.length ≤ 1000 := by have := ht_path (List.mem_of_getElem? hj); omega
  have lk : q2.length ≤ 1000 := by have := ht_path (List.mem_of_getElem? hk); omega
  have eqd : ∀ {i j : Nat} {p q : Ad}, (lv T)[i]? = some p → (lv T)[j]? = some q → decide (V.int ((i : Nat) : Int) = V.int ((j : Nat) : Int)) = decide (p = q) := fun {i j p q} h1 h2 => decide_eq_decide.mpr ⟨fun z => by
    injection z with z
    have : i = j := by omega
    subst this
    exact lv_inj h1 h2, fun z => by
    subst z
    rw [lv_i h1 h2]⟩
  have gt : ∀ a b : Nat, decide (((b : Nat) : Int) < ((a : Nat) : Int)) = decide (b < a) := fun a b => decide_eq_decide.mpr (by omega)
  refine ⟨_, (pss_cons (ps_if (pt_cmpR op_eq (pv 2) (pv 3) (nomark _)) 
      (pss_one (ps_ret pe_bl)) pss_nil) 
    (pss_cons (ps_set (i := 4) sc_law_due.nd rfl (.inl rfl) (pe_c0 GCommon hr (by decide) rfl (pa_cons (pe_ix ix_list (pv 0) (pv 2) (fun _ _ => rfl)) (pa_cons (pe_ix ix_list (pv 0) (pv 3) (fun _ _ => rfl)) pa_nil)))) 
    (pss_cons (ps_set (i := 5) sc_law_due.nd rfl (.inl rfl) (pe_conv (t' := (fun (n j : Nat) (q : Ad) (σ : L2.St) (H' : Hp) (Q' : V → Hp → Prop) => σ[0]? = some (some (V.ref pl)) ∧ σ[1]? = some (some (V.int (i : Nat))) ∧ σ[n]? = some (some (V.int (j : Nat))) ∧ σ[4]? = some (some (V.int (lcp q1 q2 : Nat))) ∧ H' = H ∧ Q' (.bl (decide (p = q) || decide (lcp q1 q2 < lcp p q))) H') 2 j q1) (pe_or (pe_cmpR op_eq (pv 1) (pv 2) (nomark _)) (pe_one (pe_cmpR op_gt (pe_c0 GCommon hr (by decide) rfl (pa_cons (pe_ix ix_list (pv 0) (pv 1) (fun _ _ => rfl)) (pa_cons (pe_ix ix_list (pv 0) (pv 2) (fun _ _ => rfl)) pa_nil))) (pv 4) (nomark _)))) ((by
      rintro σ H' Q' ⟨g0, g1, g2, g4, rfl, q3⟩
      refine ⟨_, g1, _, g2, rfl, _, rfl, ?_⟩
      rw [eqd hi hj]
      by_cases c : p = q1
      · rw [decide_eq_true c] at q3 ⊢
        exact iteT q3
      · rw [decide_eq_false c] at q3 ⊢
        refine iteF ?_
        refine ⟨_, g0, _, g1, pl, _, _, _, rfl, rfl, SqL.of hpl, atI_nat hi1, _, g0, _, g2, pl, _, _, _, rfl, rfl, SqL.of hpl, atI_nat hj1, bi, bj, p, q1, rfl, hi2, hj2, li, lj, _, g4, _, _, rfl, rfl, ?_⟩
        rw [← gt] at q3
        exact q3)))) 
    (pss_one (ps_ret (pe_or (pv 5) (pe_conv (t' := (fun (n j : Nat) (q : Ad) (σ : L2.St) (H' : Hp) (Q' : V → Hp → Prop) => σ[0]? = some (some (V.ref pl)) ∧ σ[1]? = some (some (V.int (i : Nat))) ∧ σ[n]? = some (some (V.int (j : Nat))) ∧ σ[4]? = some (some (V.int (lcp q1 q2 : Nat))) ∧ H' = H ∧ Q' (.bl (decide (p = q) || decide (lcp q1 q2 < lcp p q))) H') 3 k q2) (pe_or (pe_cmpR op_eq (pv 1) (pv 3) (nomark _)) (pe_one (pe_cmpR op_gt (pe_c0 GCommon hr (by decide) rfl (pa_cons (pe_ix ix_list (pv 0) (pv 1) (fun _ _ => rfl)) (pa_cons (pe_ix ix_list (pv 0) (pv 3) (fun _ _ => rfl)) pa_nil))) (pv 4) (nomark _)))) ((by
      rintro σ H' Q' ⟨g0, g1, g2, g4, rfl, q3⟩
      refine ⟨_, g1, _, g2, rfl, _, rfl, ?_⟩
      rw [eqd hi hk]
      by_cases c : p = q2
      · rw [decide_eq_true c] at q3 ⊢
        exact iteT q3
      · rw [decide_eq_false c] at q3 ⊢
        refine iteF ?_
        refine ⟨_, g0, _, g1, pl, _, _, _, rfl, rfl, SqL.of hpl, atI_nat hi1, _, g0, _, g2, pl, _, _, _, rfl, rfl, SqL.of hpl, atI_nat hk1, bi, bk, p, q2, rfl, hi2, hk2, li, lk, _, g4, _, _, rfl, rfl, ?_⟩
        rw [← gt] at q3
        exact q3))))))))), ?_⟩
  refine ⟨_, rfl, _, rfl, rfl, _, rfl, ?_⟩
  by_cases e : j = k
  · rw [deqT e]
    refine iteT ?_
    subst e
    obtain rfl := lv_inj hj hk
    have : mayB p q1 q1 = false := by
      unfold mayB
      rw [decide_eq_true rfl]
      rfl
    rw [this] at qq
    exact qq
  rw [deqF e]
  refine iteF ?_
  have ne : q1 ≠ q2 := fun z => e (by
    subst z
    exact lv_i hj hk)
  rw [due_may (List.mem_of_getElem? hj) (List.mem_of_getElem? hk) ne] at qq
  refine ⟨_, rfl, _, rfl, pl, _, _, _, rfl, rfl, SqL.of hpl, atI_nat hj1, _, rfl, _, rfl, pl, _, _, _, rfl, rfl, SqL.of hpl, atI_nat hk1, bj, bk, q1, q2, rfl, hj2, hk2, lj, lk, ?_⟩
  refine ⟨rfl, rfl, rfl, rfl, rfl, ?_⟩
  refine ⟨_, rfl, _, rfl, ?_⟩
  by_cases c : (decide (p = q1) || decide (lcp q1 q2 < lcp p q1)) = true
  · rw [c] at qq ⊢
    exact iteT qq
  · rw [Bool.eq_false_iff.mpr c] at qq ⊢
    exact iteF ⟨rfl, rfl, rfl, rfl, rfl, qq⟩
theorem ok_is (D : DefAt K mg "_law_is" s_law_is ["told", "due"]) : CalX P w K mg base CX0 1 "_law_is" ["told", "due"] spIs := by
  refine D.ok sc_law_is (fun vs H Q E h => ?_) (fun f cdv A outer s H vs Q E hr h => ?_)
  · obtain ⟨b, rfl, _⟩ := h
    rfl
  obtain ⟨b, rfl, qq⟩ := h
  refine ⟨_, (pss_cons (ps_if (pt_val (pv 1)) 
      (pss_one (ps_ret (pe_cmpR op_is_bl (pv 0) pe_bl (nomark _)))) pss_nil) 
    (pss_one (ps_ret (pe_cmpR op_is_bl (pv 0) pe_bl (nomark _))))), ?_⟩
  cases b with
  | true => exact ⟨_, rfl, _, rfl, iteT ⟨_, rfl, _, _, rfl, rfl, qq⟩⟩
  | false => exact ⟨_, rfl, _, rfl, iteF ⟨_, rfl, _, _, rfl, rfl, qq⟩⟩
end
end K27
set_option Elab.async false
set_option linter.all false
set_option maxRecDepth 100000
set_option maxHeartbeats 4000000
namespace L2
open PySem PySem.Spec PyProof.Rows
/-! ### a def called by keywords alone -/
structure KwF (fd : FuncData) (ps ks : List Str) (g : {α : Type} → List α → List α) : Prop where
  to : ∀ (s : Shared) (ws : List Value), ws.length = ks.length → BindsTo s fd ⟨[], ks.zip ws⟩ (ps.zip (g ws))
  rel : ∀ {zs : List V} {ws : List Value}, Vals zs ws → Vals (g zs) (g ws)
structure KwAt (K : PySem.W.Frag) (mg : Str → Option Value) (x : Str) (ps ks : List Str) (g : {α : Type} → List α → List α) : Prop where
  ex : ∃ (f : Addr) (fd : FuncData), mg x = some (.ref f) ∧ LkF K f fd ∧ KwF fd ps ks g
def tCallKS (sp : Sp) (n : Nat) (gV : List V → List V) (E : St → XK) (tk : TA) : TE := fun σ H Q => tk σ H fun zs H2 => zs.length = n ∧ sp (gV zs) H2 Q (E σ)
section
variable {X : Cx} {CX : CXT} {j k : Nat} {ps ks : List Str} {sp : Sp} {E : St → XK} {x : Str} {p pos : Pos} {kws : List Keyword} {tk : TA} {g : {α : Type} → List α → List α}
theorem run_kw0 {f : Addr} {fd : FuncData} {pins : List (Addr × Obj)} {σ : St} {H : Hp} {s : Shared} {Q : VK} {ws : List Value} {zs : List V} (F : FnOk X.prog X.w X.K X.mg X.base CX k f fd ps sp) (hr : Room k X.A) (hb : KwF fd ps ks g) (hx : PassesAt CX X σ (E σ))
    (I : Inv X pins σ H s) (rz : Vals zs ws) (hl : zs.length = ks.length) (h : sp (g zs) H Q (E σ)) : wpAny (model X.prog X.w) X.A (call (.ref f) [] (ks.zip ws)) (EP X pins σ Q) X.xe s := by
  have r2 : Vals (g zs) (g ws) := hb.rel rz
  refine wpAny_call (codeAny_mono (F.run X.A X.stack s H ⟨[], ks.zip ws⟩ (g ws) (g zs) Q (E σ) hr I.env0 (hb.to s ws (rz.length.symm.trans hl)) r2 h) fun r s' hq => ?_)
  cases r with
  | error e => exact hx pins H s e s' I hq
  | ok fl =>
    cases fl with
    | ret u => exact I.after hq
    | next => exact False.elim hq
    | brk => exact False.elim hq
    | cont => exact False.elim hq
theorem pe_kw (c : CalX X.prog X.w X.K X.mg X.base CX k x ps sp) (D : KwAt X.K X.mg x ps ks g) (hr : Room j X.A) (hk : k ≤ j) (hg : Gl X x) (hx : ∀ σ, PassesAt CX X σ (E σ)) (hkw : PK X kws tk)
    (hdb : (x == ("__debug__" : Str)) = false := by decide) (hall : (backToKw pos (keywordEach kws X.env)).all (·.1.isSome) = true := by rfl) (hks : (backToKw pos (keywordEach kws X.env)).filterMap (·.1) = ks := by rfl)
    (hpl : ((backTo pos (starEach [] X.env)).any (·.1) || (backToKw pos (keywordEach kws X.env)).any (·.1.isNone)) = false := by rfl) :
    PE X (.Call (.Name x p) [] kws pos) (tCallKS sp ks.length g E tk) := by
  obtain ⟨f, fd, F, hm, kp, _, lk⟩ := c.ex
  obtain ⟨f', fd', hm', lk', kb⟩ := D.ex
  rw [hm] at hm'
  injection hm' with hm'
  injection hm' with hm'
  subst hm'
  obtain rfl := lk.inj lk'
  refine ⟨fun pins s σ H Q I h => ?_⟩
  refine wpAny_Call_Name_kw (ld_glob I hg hm ?_ hdb)
  refine PySem.W.callWith_KW0 (first := []) (h₀ := X.base) I.ok.mod.kin kp hall ?_ hpl
  refine thn (hkw.run pos pins s σ H _ I h) fun ws s2 ⟨zs, H2, I2, rz, hl, q2⟩ => ⟨I2.kIn, ?_⟩
  rw [hks]
  exact run_kw0 F (hr.mono hk) kb (hx σ) I2 rz hl q2
end
section
variable {X : Cx} {CX : CXT} {j k : Nat} {x : Str} {ps : List Str} {sp : Sp} {E : St → XK} {p pos : Pos} {e : Expr} {es : List Expr} {t : TA}
/-- a call whose error goes to a try of this def -/
theorem pe_cxS (c : CalX X.prog X.w X.K X.mg X.base CX k x ps sp) (hr : Room j X.A) (hk : k ≤ j) (hg : Gl X x) (hx : ∀ σ, PassesAt CX X σ (E σ)) (ha : PA X (e :: es) t)
    (hdb : (x == ("__debug__" : Str)) = false := by decide) (he : starEach (e :: es) X.env = (false, eval e X.env) :: starEach es X.env := by rfl) (hpl : (backTo pos (starEach es X.env)).any (·.1) = false := by rfl) :
    PE X (.Call (.Name x p) (e :: es) [] pos) (tCallS sp E t) := by
  obtain ⟨f, fd, F, hm, kp, b, _⟩ := c.ex
  exact pe_callS F (hr.mono hk) hg hm kp b hx ha hdb he hpl
end
/-! ### isinstance(e, C) of a caught error with a dict -/
def rIsX (K : PySem.W.Frag) (a : Addr) (cls : Value) (d : Option Addr) : List V → Hp → VK → Prop := fun xs H Q => ∃ (D dd : Addr) (fs : List (Str × V)) (c : V) (cv : Value) (b : Bool), cls = .ref D ∧ d = some dd ∧ ExcC K D ∧ xs = [.ref a, c] ∧ (∀ u, RelV c u → u = cv) ∧ PySem.W.kitOne K (.ref D) cv = some b ∧ H dd = some (.xd fs) ∧ Q (.bl b) H
theorem call_isX {X : Cx} {a : Addr} {oe : Obj} {cls : Value} {d : Option Addr} {pn : List (Addr × Obj)} (hz : Zc cls d oe) (hf : ∃ vs, oe.data = .fields vs) : CallR (X.suite a ((a, oe) :: pn)) (.builtin "isinstance") (rIsX X.K a cls d) := by
  intro pins s σ H xs us Q I r h
  obtain ⟨D, dd, fs, c, cv, b, rfl, rfl, C, rfl, hcv, e, ea, q⟩ := h
  cases r with
  | cons rx rr =>
    cases rr with
    | cons rt rr =>
      cases rr
      cases rx
      have ec := hcv _ rt
      subst ec
      obtain ⟨hget, _⟩ := I.pin (a, oe) (List.mem_append.mpr (.inl List.mem_cons_self))
      obtain ⟨vs, hd⟩ := hf
      have hx : ObjOk X.prog X.w H s.heap dd (.xd fs) := I.hok dd _ ea
      obtain ⟨mA, hns, hr⟩ := hx
      obtain ⟨od, ho, hl⟩ := lookIn_ns hns
      have J : PySem.W.InstAt s.heap a oe D (some od) := ⟨hget, hz.1, by unfold PySem.W.notCls; rw [hd] <;> rfl, by rw [hz.2]; exact ho⟩
      have hcl : (PySem.W.clsIn X.K D).isSome = true := by
        obtain ⟨cd, hc, _⟩ := PySem.W.any_some C.hd
        rw [hc]
        rfl
      exact PySem.W.kia_one (PySem.W.kitx_exc hcl C.hg C.hk C.hs C.ha C.hn C.ht C.hm) I.kIn J e (fun z => nomatch z) fun tk => ⟨.bl b, H, I.tok tk, rfl, q⟩
end L2
set_option Elab.async false
set_option linter.all false
set_option maxRecDepth 100000
set_option maxHeartbeats 8000000
namespace PySem
open PySem PySem.Spec PyProof.Rows PyProof
/-! ### tuple.index of whole numbers -/
theorem meets_tindex (a : Addr) (o : Obj) (items : Array Value) (n : Nat) (ns : List Int) (k : Int) (tk : Tok) (j : Nat) (hi : IntsAre items.toList ns) (hj : ns[j]? = some k) (hno : ∀ i, i < j → ns[i]? ≠ some k) : Meets (Builtin.«tuple.index» ⟨[.ref a, .int k tk], []⟩) (fun A R s =>
      s.heap.get? a = some o ∧ o.data = .seq items n ∧ (∀ tk' t2, R (.ok (.ret (.int (j : Nat) tk'))) { s with toks := t2 })) := by
  intro prog w A R s h
  obtain ⟨ho, hd, hR⟩ := h
  unfold Builtin.«tuple.index»
  simp only [Std.Legacy.Range.forIn_eq_forIn_range']
  wp_walk using wpAny_tupleItemsOf ho hd
  have hjl := (List.getElem?_eq_some_iff.mp hj).1
  have hsz : items.size = ns.length := by
    have : ∀ {us : List Value} {ms : List Int}, IntsAre us ms → us.length = ms.length := by
      intro us ms h
      induction h with
      | nil => rfl
      | cons _ _ _ ih => exact congrArg (· + 1) ih
    have := this hi
    rwa [Array.length_toList] at this
  have hm : [:min items.size items.size].size = items.size := by
    show (min items.size items.size - 0 + 1 - 1) / 1 = items.size
    rw [Nat.min_self, Nat.div_one]
    omega
  rw [hm]
  have hat : ∀ i, i < items.size → ∃ x t, ns[i]? = some x ∧ items[i]? = some (.int x t) := fun i hil => by
    have : ∀ {us : List Value} {ms : List Int}, IntsAre us ms → ∀ i, i < us.length → ∃ x t, ms[i]? = some x ∧ us[i]? = some (.int x t) := by
      intro us ms h
      induction h with
      | nil => exact fun i h => absurd h (Nat.not_lt_zero _)
      | cons x t _ ih =>
        intro i h
        cases i with
        | zero => exact ⟨x, t, rfl, rfl⟩
        | succ i => exact ih i (by simpa using h)
    obtain ⟨x, t, h1, h2⟩ := this hi i (by rw [Array.length_toList]; exact hil)
    exact ⟨x, t, h1, by rw [← Array.getElem?_toList]; exact h2⟩
  refine wpAny_forIn_list (M := model prog w) _ (fun (l : List Nat) (b : Option PySem.Fin × Unit) s' => s' = s ∧ b = (none, ()) ∧ ∃ i, l = List.range' i (items.size - i) ∧ i ≤ j) _ ?_ ?_ (List.range' 0 items.size) ((none, ()) : Option PySem.Fin × Unit) ⟨rfl, rfl, 0, rfl, Nat.zero_le _⟩
  · rintro i0 rest b s' ⟨rfl, rfl, i, hl, hij⟩
    have hn : items.size - i = (items.size - (i + 1)) + 1 := by
      cases e : items.size - i with
      | zero =>
        rw [e] at hl
        exact nomatch hl
      | succ c => omega
    rw [hn, List.range'_succ] at hl
    injection hl with h1 h2
    subst h1
    obtain ⟨x, t, g1, g2⟩ := hat i0 (by omega)
    simp only [g2]
    refine wpAny_bind (wpAny_eqBool_int ?_)
    by_cases c : i0 = j
    · subst c
      rw [hj] at g1
      obtain rfl := Option.some.inj g1
      rw [beq_self_eq_true]
      wp_walk
      exact hR _ _
    · have hx : (x == k) = false := by
        rw [beq_eq_false_iff_ne]
        intro e
        exact hno i0 (by omega) (by rw [g1, e])
      rw [hx]
      wp_walk
      exact ⟨rfl, rfl, i0 + 1, h2, by omega⟩
  · rintro b s' ⟨rfl, rfl, i, hl, hij⟩
    have : items.size - i = 0 := by
      have := congrArg List.length hl
      rw [List.length_range'] at this
      exact this.symm
    omega
end PySem
namespace L2
open PySem PySem.Spec PyProof.Rows
theorem ints_vals3 : ∀ {ns : List Int} {us : List Value}, Vals (ns.map V.int) us → IntsAre us ns
  | [], _, h => by
    cases h
    exact .nil
  | n :: ns, _, h => by
    cases h with
    | cons r t =>
      obtain ⟨tk, rfl⟩ := r
      exact .cons n tk (ints_vals3 t)
def rTIndex (K : PySem.W.Frag) : V → List V → Hp → VK → Prop := fun x xs H Q => ∃ (a : Addr) (ns : List Int) (k : Int) (j : Nat), x = .ref a ∧ xs = [.int k] ∧ SqT K H a (ns.map V.int) ∧ ns[j]? = some k ∧ (∀ i, i < j → ns[i]? ≠ some k) ∧ Q (.int (j : Nat)) H
theorem mt_tindex {X : Cx} {K : PySem.W.Frag} (hK : X.K = K) : MtR X "tuple.index" (rTIndex K) := by
  subst hK
  intro pins s σ H x xs v us Q I rx rxs h
  obtain ⟨a, ns, k, j, rfl, rfl, hs, hj, hno, q⟩ := h
  cases rx
  cases rxs with
  | @cons _ u _ _ ry rr =>
  cases rr
  obtain ⟨tk, rfl⟩ := ry
  obtain ⟨its, rv, ⟨o, ho, hc, n, hd⟩, _⟩ := I.tuple hs
  refine call_meets (T := "tuple") F.slot_tuple_index ⟨_, ho, hc⟩ F.entry_tuple_index (by rfl) (meets_tindex a o its.toArray n ns k tk j (ints_vals3 rv) hj hno) ⟨ho, hd, fun tk' t2 => ?_⟩
  exact ⟨.int (j : Nat), H, ⟨I.ok, I.os, I.bare, I.base, I.loc, I.cell, I.free, I.freeC, I.pin, I.hok, I.len⟩, ⟨tk', rfl⟩, q⟩
end L2
set_option Elab.async false
set_option linter.all false
set_option maxRecDepth 100000
set_option maxHeartbeats 8000000
namespace L2
open PySem PySem.Spec PyProof.Rows
/-! ### tuple(list), its object kept; methods of such a tuple -/
def rTupF (K : PySem.W.Frag) : List V → Hp → VK → Prop := fun xs H Q => ∃ p ys, xs = [V.ref p] ∧ SqL K H p ys ∧ ∀ (l : Addr) (o : Obj), H l = none → o.dict = none → o.cls = .type "tuple" → Q (V.ref l) (upd H l (HO.frz o (HO.tup ys)))
theorem call_tupleF {X : Cx} {K : PySem.W.Frag} (hK : X.K = K) : CallR X (.type "tuple") (rTupF K) := by
  subst hK
  intro pins s σ H xs us Q I rv h
  obtain ⟨p, ys, rfl, hl, q⟩ := h
  cases rv with
  | cons r rr =>
  cases rr
  cases r
  obtain ⟨its, rv, pl, hz⟩ := I.list hl
  have hlen := rv.length
  obtain ⟨o, n, ho, hc, _, hd⟩ := pl
  refine callType_new F.called_tuple (by decide) (F.typeCall_tuple_1 _) (F.newCall_tuple_1 _) (fun obj => F.args_object_init_2 obj _) F.entry_tuple_new (meets_tuple_new_list p o its.toArray n hc hd (by rw [List.size_toArray]; omega)) ⟨ho, fun h' hk => ?_⟩
  have I1 := I.kept (h' := h') (t' := s.toks) hk
  have g : (h'.push { cls := .type "tuple", data := .seq its.toArray }).get? h'.objs.size = some { cls := .type "tuple", data := .seq its.toArray } := Heap.get?_push_size _ rfl
  refine ⟨⟨_, g, rfl⟩, .ref h'.objs.size, upd H h'.objs.size (.frz { cls := .type "tuple", data := .seq its.toArray } (.tup ys)), I1.laid (fun b u hb => Heap.get?_push_of_some _ hb) (Nat.le_refl _) ⟨g, hz, its, rv, ⟨_, g, rfl, _, rfl⟩⟩, rfl, q _ _ I1.fresh rfl rfl⟩
section
variable {X : Cx} {o e : Expr} {es : List Expr} {to : TE} {t : TA} {name : Str} {apos cpos : Pos} {id : String} {r : V → List V → Hp → VK → Prop}
def tBMF (r : V → List V → Hp → VK → Prop) (to : TE) (t : TA) : TE := fun σ H Q => to σ H fun x H1 => (∃ p ob ys, x = .ref p ∧ H1 p = some (.frz ob (.tup ys)) ∧ ob.dict = none ∧ ob.cls = .type "tuple") ∧ t σ H1 fun xs H2 => r x xs H2 Q
theorem pe_bmF (pa : PlainAttrs "tuple") (slot : Slot "tuple" name id) (hty : typeOf (.builtin id) = pure (.type "method_descriptor")) (hm : MtR X id r) (ho : PE X o to) (ha : PA X (e :: es) t)
    (h1 : attributeBase o name X.env (eval o X.env) = eval o X.env := by rfl)
    (h2 : ((((backTo cpos (starEach (e :: es) X.env)).all fun x => !x.1) && (backToKw cpos (keywordEach [] X.env)).all fun x => x.1.isSome) && decide (((e :: es).length + ([] : List Keyword).length + if ([] : List Keyword).isEmpty = true then 0 else 1) < 30)) = true := by rfl)
    (h3 : (apos.endLine == cpos.line) = true := by rfl)
    (hst : starEach (e :: es) X.env = (false, eval e X.env) :: starEach es X.env := by rfl) (hpl : (backTo cpos (starEach es X.env)).any (·.1) = false := by rfl) :
    PE X (.Call (.Attribute o name apos) (e :: es) [] cpos) (tBMF r to t) := by
  refine ⟨fun pins s σ H Q I h => ?_⟩
  refine wpAny_Call_method h1 h2 h3 pa slot hty (thn (ho.run pins s σ H _ I h) fun u s1 ⟨x, H1, I1, rx, ⟨p, ob, ys, ex, ep, hdn, hcl⟩, q⟩ => ?_)
  subst ex
  have eu : u = Value.ref p := rx
  subst eu
  obtain ⟨g, _⟩ := I1.hok p _ ep
  refine ⟨⟨_, g, hcl⟩, fun a ea => ?_, ?_⟩
  · injection ea with ea
    subst ea
    exact ⟨ob, g, hdn⟩
  refine callWith_method1 (thn (ha.run cpos pins s1 σ H1 _ I1 q) fun ws s2 ⟨zs, H2, I2, rz, q2⟩ => ?_) hst hpl
  exact hm pins s2 σ H2 (.ref p) zs (.ref p) ws Q I2 rfl rz q2
end
end L2
set_option Elab.async false
set_option linter.all false
set_option maxRecDepth 100000
set_option maxHeartbeats 8000000
namespace K27
open PySem PySem.Spec PyProof.Rows L2 Dt
def idL {α : Type} (l : List α) : List α := l
def revL {α : Type} (l : List α) : List α := l.reverse
def rotL {α : Type} : List α → List α | a :: r => r ++ [a] | [] => []
theorem idL_rel {zs : List V} {ws : List Value} (h : Vals zs ws) : Vals (idL zs) (idL ws) := h
theorem revL_rel {zs : List V} {ws : List Value} (h : Vals zs ws) : Vals (revL zs) (revL ws) := by
  unfold revL
  induction h with
  | nil => exact .nil
  | cons r _ ih =>
    rw [List.reverse_cons, List.reverse_cons]
    exact ih.append (.cons r .nil)
theorem rotL_rel {zs : List V} {ws : List Value} (h : Vals zs ws) : Vals (rotL zs) (rotL ws) := by
  cases h with
  | nil => exact .nil
  | cons r t => exact (show Vals _ _ from t).append (.cons r .nil)
theorem seq_str {a b : Str} (h : a = b) : decide (V.str a = V.str b) = true := decide_eq_true (by rw [h])
theorem sne_str {a b : Str} (h : a ≠ b) : decide (V.str a = V.str b) = false := decide_eq_false fun z => h (by injection z)
/-- the classes of errors -/
structure EK (K : PySem.W.Frag) (mg : Str → Option Value) (U B S PA : Addr) : Prop where
  gB : mg "BoughError" = some (.ref B)
  gS : mg "ShapeError" = some (.ref S)
  gP : mg "InvalidPaper" = some (.ref PA)
  ec : ExcC K U
  tB : PySem.W.exmOne K (.ref U) (.ref B) = some true
  kS : PySem.W.kitOne K (.ref U) (.ref S) = some true
  kP : PySem.W.kitOne K (.ref U) (.ref PA) = some false
def Refd (K : PySem.W.Frag) (H : Hp) (Q : VK) (z : Str) : Prop := ∀ v H', Same H H' → DpF K H H' v (.tuple [.str "refused", .str z, .int (-1)]) → Q v H'
/-- the except suite -/
def tSuite (U a : Addr) (cls : Value) (d : Option Addr) : TS := fun D σ H => ∃ (z : Str) (dd : Addr), cls = .ref U ∧ d = some dd ∧ σ[5]? = some (some (.ref a)) ∧ H dd = some (xdO z (-1)) ∧ ∀ r, H r = none → D.rt (.ref r) (upd H r (.tup [.str "refused", .str z, .int (-1)]))
theorem ask_err {K : PySem.W.Frag} {mg : Str → Option Value} {U B S PA : Addr} {H H1 : Hp} {Q : VK} {z : Str} {D : Ends} {σ : L2.St} (EE : EK K mg U B S PA) (hD : D.rt = Q) (hσ : σ.length = 6) (s1 : Same H H1) (q : Refd K H Q z) :
    Out U z H1 (WE (wAs1 K (.ref B) 5 (tSuite U) D) σ) := by
  intro d hd
  refine ⟨EE.tB, fun a0 ha0 => ⟨z, d, rfl, rfl, ?_, upd_same, fun r hr2 => ?_⟩⟩
  · rw [List.getElem?_set_self (by omega)]
  · show D.rt (.ref r) _
    rw [hD]
    have sd : Same H1 (upd H1 d (xdO z (-1))) := same_new hd
    refine q (.ref r) _ (s1.trans (sd.trans (same_new hr2))) fun H3 hk => ?_
    exact .tup (SqT.of (hk r _ (s1.free (sd.free hr2)) upd_same)) (.cons (.str _) (.cons (.str _) (.cons (.int _) .nil)))
/-! ### _law_ask -/
def spAsk (K : PySem.W.Frag) (C U : Addr) : Sp := fun vs H Q _ => ∃ (n : Bool) (v x y z : V) (t : Dt) (o o1 o2 : Option Int), vs = [.bl n, v, x, y, z] ∧ DtV K H v t ∧ t.size ≤ 100000 ∧ (t.good 1 = true → t.ht < 20 ∧ t.nodes ≤ 1000) ∧ NumV K H x o ∧ NumV K H y o1 ∧ NumV K H z o2 ∧
  (t.good 1 = false → Refd K H Q "form") ∧
  (t.good 1 = true → belowB (t.lf : Nat) o = false → Refd K H Q "queue") ∧
  (t.good 1 = true → belowB (t.lf : Nat) o = true → belowB (t.lf : Nat) o1 = false → Refd K H Q "one") ∧
  (t.good 1 = true → belowB (t.lf : Nat) o = true → belowB (t.lf : Nat) o1 = true → belowB (t.lf : Nat) o2 = false → Refd K H Q "other") ∧
  (t.good 1 = true → ∀ (i j k : Nat) p q1 q2, o = some (i : Nat) → o1 = some (j : Nat) → o2 = some (k : Nat) → (lv t)[i]? = some p → (lv t)[j]? = some q1 → (lv t)[k]? = some q2 → ∀ H', Same H H' → Q (.bl (mayB p q1 q2)) H')
section
variable {P : Program} {w : World} {K : PySem.W.Frag} {mg : Str → Option Value} {base : Heap} {C CS U fI B S PA : Addr}
theorem ok_ask (D : DefAt K mg "_law_ask" s_law_ask ["named", "form", "queue", "one", "other"]) (T : Txt K mg) (N : NUT K mg U fI) (EE : EK K mg U B S PA)
    (GMay : CalX P w K mg base (L2.CX P w) 24 "may_turn" ["form", "queue", "one", "other"] (spMay K C U)) (KMay : KwAt K mg "may_turn" ["form", "queue", "one", "other"] ["other", "one", "queue", "form"] revL) :
    CalX P w K mg base CX0 25 "_law_ask" ["named", "form", "queue", "one", "other"] (spAsk K C U) := by
  refine D.ok sc_law_ask (fun vs H Q E h => ?_) (fun f cdv A outer s H vs Q E hr h => ?_)
  · obtain ⟨n, v, x, y, z, t, o, o1, o2, rfl, _⟩ := h
    rfl
  obtain ⟨n, v, x, y, z, t, o, o1, o2, rfl, hv, hz, hg, hx, hy, hz2, q0, q1, q2, q3, q4⟩ := h
  refine ⟨_, pss_cons (ps_try_as2 (i := 5) rfl rfl sc_law_ask.nd rfl rfl ⟨rfl, by decide, Or.inl EE.gB⟩
    (fun W pn xe tk _ => (pss_cons (ps_if (pt_val (pv 0)) (pss_one (ps_ret (by exact (pe_kw GMay KMay hr (by decide) rfl (fun σ => passAt tk σ) (by exact (pk_cons (pv 4) (pk_cons (pv 3) (pk_cons (pv 2) (pk_cons (pv 1) pk_nil))))))))) pss_nil)
      (pss_one (ps_ret (by exact (pe_cxS GMay hr (by decide) rfl (fun σ => passAt tk σ) (by exact (pa_cons (pv 1) (pa_cons (pv 2) (pa_cons (pv 3) (pa_cons (pv 4) pa_nil)))))))))))
    (fun a oe cls d pn hz hf => (pss_one (ps_conv (t' := tSuite U a cls d) (ps_if (PW.pt (pw_and (pt_val (pe_callB (call_isX hz hf) (by rfl) T.isinstance boot_isinstance (pa_cons (pv 5) (pa_cons (pe_glob (v := .ref U) (by rfl) N.gU rfl) pa_nil)))) (pw_and (pt_val (pe_callB (call_isX hz hf) (by rfl) T.isinstance boot_isinstance (pa_cons (pv 5) (pa_cons (pe_glob (v := .ref S) (by rfl) EE.gS rfl) pa_nil)))) (pw_and1 (pt_not (pt_val (pe_callB (call_isX hz hf) (by rfl) T.isinstance boot_isinstance (pa_cons (pv 5) (pa_cons (pe_glob (v := .ref PA) (by rfl) EE.gP rfl) pa_nil))))))))) (pss_one (ps_ret (pe_tup (pa_cons pe_str (pa_cons (pe_xf N.xf N.nw hz hf (pv 5)) (pa_cons (pe_xf N.xf N.na hz hf (pv 5)) pa_nil)))))) pss_nil) (by
      rintro D σ H ⟨z, dd, rfl, rfl, hs, hd, q⟩
      refine ⟨_, hs, U, dd, _, _, _, _, rfl, rfl, EE.ec, rfl, (fun u h => h), kit_self, hd, ⟨_, rfl, ?_⟩⟩
      refine iteT ?_
      refine ⟨_, hs, U, dd, _, _, _, _, rfl, rfl, EE.ec, rfl, (fun u h => h), EE.kS, hd, ⟨_, rfl, ?_⟩⟩
      refine iteT ?_
      refine ⟨_, hs, U, dd, _, _, _, _, rfl, rfl, EE.ec, rfl, (fun u h => h), EE.kP, hd, ⟨_, rfl, ?_⟩⟩
      refine iteT ?_
      exact ⟨_, hs, rfl, rfl, dd, _, _, rfl, hd, rfl, _, hs, rfl, rfl, dd, _, _, rfl, hd, rfl, (by show 3 ≤ sizeLine; decide), q⟩)))))
    (pss_one (ps_ret (pe_tup (pa_cons pe_str pa_nil)))), ?_⟩
  have toU : ∀ (z : Str) (H1 : Hp) (D : Ends) (σ : L2.St), D.rt = Q → σ.length = 6 → Same H H1 → Refd K H Q z → Out U z H1 (WE (wAs1 K (.ref B) 5 (tSuite U) D) σ) := fun z H1 D σ hD hl s1 r => ask_err EE hD hl s1 r
  refine ⟨_, rfl, _, rfl, ?_⟩
  cases n with
  | true =>
    refine iteT ?_
    refine ⟨_, rfl, _, rfl, _, rfl, _, rfl, rfl, ?_⟩
    exact ⟨v, x, y, z, t, o, o1, o2, rfl, hv, hz, hg, hx, hy, hz2, (fun g H1 s1 => toU _ H1 _ _ rfl rfl s1 (q0 g)), (fun g b H1 s1 => toU _ H1 _ _ rfl rfl s1 (q1 g b)), (fun g b b1 H1 s1 => toU _ H1 _ _ rfl rfl s1 (q2 g b b1)), (fun g b b1 b2 H1 s1 => toU _ H1 _ _ rfl rfl s1 (q3 g b b1 b2)), q4⟩
  | false =>
    refine iteF ?_
    refine ⟨_, rfl, _, rfl, _, rfl, _, rfl, ?_⟩
    exact ⟨v, x, y, z, t, o, o1, o2, rfl, hv, hz, hg, hx, hy, hz2, (fun g H1 s1 => toU _ H1 _ _ rfl rfl s1 (q0 g)), (fun g b H1 s1 => toU _ H1 _ _ rfl rfl s1 (q1 g b)), (fun g b b1 H1 s1 => toU _ H1 _ _ rfl rfl s1 (q2 g b b1)), (fun g b b1 b2 H1 s1 => toU _ H1 _ _ rfl rfl s1 (q3 g b b1 b2)), q4⟩
end
end K27
set_option Elab.async false
set_option linter.all false
set_option maxRecDepth 100000
set_option maxHeartbeats 8000000
namespace K27
open PySem PySem.Spec PyProof.Rows L2 Dt
/-! ### _law_turned, _law_rank, order -/
theorem noL_en : ∀ l : List En, noLs (l.map enD) = true
  | [] => by unfold noLs; rfl
  | e :: l => by
    rw [List.map_cons]
    unfold noLs
    rw [noL_en l, Bool.and_true]
    unfold enD
    unfold noL
    unfold noLs
    rw [Bool.and_eq_true]
    refine ⟨?_, ?_⟩
    · unfold intsD
      unfold noL
      exact noL_ints _
    · unfold noLs
      unfold noL
      unfold noLs
      rfl
theorem noL_tups {α : Type} (f : α → List PyData) (h : ∀ x, noLs (f x) = true) : ∀ l : List α, noLs (l.map fun x => .tuple (f x)) = true
  | [] => by unfold noLs; rfl
  | y1 :: l => by
    rw [List.map_cons]
    unfold noLs
    rw [noL_tups f h l, Bool.and_true]
    unfold noL
    exact h y1
theorem noL_lines (T : Dt) (L : Lns) : noL (linesD T L) = true := by
  unfold linesD
  unfold noL
  exact noL_tups (fun q => (L q).map enD) (fun q => noL_en _) _
theorem keepT_of {H H' : Hp} (h : ∀ y o, H y = some o → (∀ xs, o ≠ .lst xs) → H' y = some o) : KeepT H H' := fun y ys => ⟨fun e => h y _ e (fun xs z => nomatch z), fun o e => h y _ e (fun xs z => nomatch z)⟩
theorem dps_intT {K : PySem.W.Frag} {H : Hp} : ∀ ns : List Int, DpAll K H (ns.map V.int) (ns.map PyData.int)
  | [] => .nil
  | i :: ns => .cons (.int i) (dps_intT ns)
theorem dp_intT {K : PySem.W.Frag} {H : Hp} {y : Addr} {ns : List Int} (h : SqT K H y (ns.map V.int)) : Dp K H (.ref y) (intsD ns) := .tup h (dps_intT ns)
theorem un64 {k : Nat} {A : Around} (hr : Room k A) : A.units + 64 < cLine := by have := hr.un; omega
theorem op_in_seqK {X : Cx} {K : PySem.W.Frag} (hK : X.K = K) : OpR X (compareOp CmpOp.In) (rIn K false) := hK ▸ op_in_seq
theorem SqT.frz {K : PySem.W.Frag} {H : Hp} {y : Addr} {o : Obj} {xs : List V} (h : H y = some (.frz o (.tup xs))) : SqT K H y xs := Or.inl (Or.inr ⟨o, h⟩)
theorem in_ints (y : Int) (l : List Int) : inV (.int y) (l.map V.int) = decide (y ∈ l) := by
  unfold inV
  by_cases h : y ∈ l
  · rw [decide_eq_true h, List.any_eq_true]
    exact ⟨.int y, List.mem_map_of_mem h, beq_self_eq_true _⟩
  · rw [decide_eq_false h, List.any_eq_false]
    intro z hz e
    obtain ⟨x, hx, rfl⟩ := List.mem_map.mp hz
    have e2 : x = y := by simpa [eqV] using e
    exact h (e2 ▸ hx)
theorem flat_ints (l : List Int) : (l.map V.int).all flatV = true := by
  rw [List.all_eq_true]
  intro y hy
  obtain ⟨k, _, rfl⟩ := List.mem_map.mp hy
  rfl
theorem shaped_ints (l : List Int) : SeqAt.shaped (intsD l) = true := (shp_ints (n := 1) (l := l)).ok (by decide)
section
variable {K : PySem.W.Frag} {C CS : Addr} {S : List Addr} {H H' : Hp} {tr bg : Addr} {Bs : List Addr} {a ta la sd : Addr} {Ls : List Addr} {T : Dt} {L : Lns} {kv : List (Key × V)} {now : Int} {m : Nat}
/-- changed in new places alone -/
theorem same_goN {M : List Addr} {H1 H2 : Hp} (s : Same H H1) (g : GoS M H1 H2) (h : ∀ y ∈ M, H y = none) : Same H H2 := fun y o e => g.at (s y o e) fun z => by
  rw [h y z] at e
  exact nomatch e
theorem Rn.goN {tp ca : Addr} {M : List Addr} {H1 H2 : Hp} (r : Rn K tp ca H H1) (g : GoS M H1 H2) (h : ∀ y ∈ M, H y = none) : Rn K tp ca H H2 := by
  have ntp : tp ∉ M := fun z => by
    obtain ⟨u, hu⟩ := r.a.some
    rw [h _ z] at hu
    exact nomatch hu
  have nca : ca ∉ M := fun z => by
    obtain ⟨u, hu⟩ := r.a.someC
    rw [h _ z] at hu
    exact nomatch hu
  refine ⟨r.a, ?_, fun y o e => ?_⟩
  · obtain ⟨cs, i, b, s, h1, h2, h3, h4⟩ := r.b
    exact ⟨cs, i, b, s, h1, g.at h2 ntp, g.at h3 nca, h4⟩
  · by_cases z : y = tp
    · rw [z, del_same] at e
      exact nomatch e
    · have e1 := r.g y o e
      rw [del_ne z] at e e1 ⊢
      exact g.at e1 fun y' => by
        rw [h y y'] at e
        exact nomatch e
/-- a made standing, seen beside lists that were there before -/
theorem StE.beside {M : List Addr} {H0 : Hp} (s : StE K C CS (sd :: Ls) H' a ta la sd Ls T L kv) (t : TN K H0 (offS (sd :: Ls) H') C ta T ∧ H0 la = none) (hM : ∀ y ∈ M, H0 y ≠ none) (hM' : ∀ y ∈ M, ∃ xs, H' y = some (.lst xs)) : StE K C CS ((sd :: Ls) ++ M) H' a ta la sd Ls T L kv := by
  have off : ∀ {y o}, offS (sd :: Ls) H' y = some o → (∀ xs, o ≠ .lst xs) → offS ((sd :: Ls) ++ M) H' y = some o := fun {y o} h n => by
    obtain ⟨h1, h2⟩ := offS_some h
    rw [offS_ne (fun z => ?_)]
    · exact h2
    · rcases List.mem_append.mp z with z | z
      · exact h1 z
      · obtain ⟨xs, hx⟩ := hM' y z
        rw [h2] at hx
        exact n xs (Option.some.inj hx)
  have off2 : ∀ {y o}, offS (sd :: Ls) H' y = some o → H0 y = none → offS ((sd :: Ls) ++ M) H' y = some o := fun {y o} h n => by
    obtain ⟨h1, h2⟩ := offS_some h
    rw [offS_ne (fun z => ?_)]
    · exact h2
    · rcases List.mem_append.mp z with z | z
      · exact h1 z
      · exact hM y z n
  have kt : KeepT (offS (sd :: Ls) H') (offS ((sd :: Ls) ++ M) H') := fun y ys => ⟨fun h => off h (fun xs z => nomatch z), fun o h => off h (fun xs z => nomatch z)⟩
  obtain ⟨dx, ob⟩ := s.ob
  obtain ⟨⟨dx', fv, LL, SS, h1, h2, h3, h4, h5⟩, hla⟩ := t
  refine ⟨fun y hy => List.mem_append_left _ hy, fun y hy => ?_, s.nd, ⟨dx, off ob (fun xs z => nomatch z)⟩, ⟨dx', fv, LL, SS, ⟨off h1.ob (fun xs z => nomatch z), fun i hi => off2 (h1.ls i hi) (h5 i hi), h1.inj⟩, fun i hi => Paired.mono (fun v q c => Cell.keep kt i v q c) (h2 i hi), h3.keep kt, h4⟩, off2 s.ln hla, s.len, fun q hq => ?_, s.se, s.rk, s.pw⟩
  · rcases List.mem_append.mp hy with hy | hy
    · exact s.al y hy
    · obtain ⟨xs, hx⟩ := hM' y hy
      rw [hx]
      exact fun z => nomatch z
  · obtain ⟨l, xs, z1, z2, z3⟩ := s.li q hq
    exact ⟨l, xs, z1, z2, dps_keep kt z3 (noL_en _)⟩
end
/-- a tuple of whole numbers that a def has made -/
def FrzT (H : Hp) (a : Addr) (ns : List Int) : Prop := ∃ ob, H a = some (.frz ob (.tup (ns.map V.int))) ∧ ob.dict = none ∧ ob.cls = .type "tuple"
theorem FrzT.same {H H' : Hp} {a : Addr} {ns : List Int} (h : FrzT H a ns) (e : Same H H') : FrzT H' a ns := by
  obtain ⟨ob, h1, h2, h3⟩ := h
  exact ⟨ob, e _ _ h1, h2, h3⟩
theorem FrzT.sqt {K : PySem.W.Frag} {H : Hp} {a : Addr} {ns : List Int} (h : FrzT H a ns) : SqT K H a (ns.map V.int) := by
  obtain ⟨ob, h1, h2, h3⟩ := h
  exact SqT.frz h1
theorem FrzT.dp {K : PySem.W.Frag} {H : Hp} {a : Addr} {ns : List Int} (h : FrzT H a ns) : Dp K H (.ref a) (intsD ns) := dp_intT h.sqt
def RankI (ns : List Int) : Prop := ns.length ≤ 8 ∧ ∀ i ∈ ns, -rankB < i ∧ i < rankB
theorem rank_intsD {ns : List Int} (h : RankI ns) : rankOf (intsD ns) = true := by
  show (decide ((ns.map PyData.int).length ≤ 8) && (ns.map PyData.int).all partB) = true
  rw [Bool.and_eq_true]
  refine ⟨decide_eq_true (by rw [List.length_map]; exact h.1), List.all_eq_true.mpr fun d hd => ?_⟩
  obtain ⟨i, hi, rfl⟩ := List.mem_map.mp hd
  have := h.2 i hi
  show (decide (-rankB < i) && decide (i < rankB)) = true
  rw [Bool.and_eq_true]
  exact ⟨decide_eq_true this.1, decide_eq_true this.2⟩
def spTurned : Sp := fun vs H Q _ => ∃ (a b : Addr) (x y : Int) (ns ms : List Int) (i j i' j' : Nat), vs = [.ref a, .ref b, .int x, .int y] ∧ FrzT H a ns ∧ FrzT H b ms ∧ ns.Nodup ∧ ms.Nodup ∧ ns[i]? = some x ∧ ns[j]? = some y ∧ ms[i']? = some x ∧ ms[j']? = some y ∧ Q (.bl (decide (decide (i < j) ≠ decide (i' < j')))) H
def spRank1 (K : PySem.W.Frag) : Sp := fun vs H Q _ => ∃ (tp ca : Addr) (m : Nat), vs = [.ref tp, .int (m : Nat)] ∧ Tape K H tp ca ∧ ∀ H' a ns, Rn K tp ca H H' → RankI ns → H a = none → H' a = some (.tup (ns.map V.int)) → Q (.ref a) H'
def spOrdF (K : PySem.W.Frag) (C CS : Addr) : Sp := fun vs H Q _ => ∃ (a ta la sd : Addr) (S Ls : List Addr) (T : Dt) (L : Lns) (kv : List (Key × V)), vs = [.ref a] ∧ StE K C CS S H a ta la sd Ls T L kv ∧ T.ht < 20 ∧ Con T L ∧ (∀ q, (L q).length ≤ 100000) ∧
  ∀ H' p, Same H H' → H p = none → FrzT H' p (ord T L) → Q (.ref p) H'
theorem nd_first {ns : List Int} {x : Int} {i : Nat} (h : ns.Nodup) (hi : ns[i]? = some x) : ∀ k, k < i → ns[k]? ≠ some x := fun k hk e => by
  obtain ⟨h1, h2⟩ := List.getElem?_eq_some_iff.mp hi
  obtain ⟨g1, g2⟩ := List.getElem?_eq_some_iff.mp e
  have := (List.getElem_inj h).mp (h2.trans g2.symm)
  omega
section
variable {P : Program} {w : World} {K : PySem.W.Frag} {mg : Str → Option Value} {base : Heap} {C CS U fG : Addr}
theorem ok_turned (D : DefAt K mg "_law_turned" s_law_turned ["before", "after", "one", "other"]) : CalX P w K mg base CX0 1 "_law_turned" ["before", "after", "one", "other"] spTurned := by
  refine D.ok sc_law_turned (fun vs H Q E h => ?_) (fun f cdv A outer s H vs Q E hr h => ?_)
  · obtain ⟨a, b, x, y, ns, ms, i, j, i', j', rfl, _⟩ := h
    rfl
  obtain ⟨a, b, x, y, ns, ms, i, j, i', j', rfl, ha, hb, na, nb, h1, h2, h3, h4, q⟩ := h
  refine ⟨_, (pss_one (ps_ret (pe_cmpR op_ne (pe_cmpR op_lt (pe_bmF PySem.F.plainAttrs_tuple PySem.F.slot_tuple_index PySem.F.type_tuple_index (mt_tindex (K := K) (by exact rfl)) (pv 0) (pa_cons (pv 2) pa_nil)) (pe_bmF PySem.F.plainAttrs_tuple PySem.F.slot_tuple_index PySem.F.type_tuple_index (mt_tindex (K := K) (by exact rfl)) (pv 0) (pa_cons (pv 3) pa_nil)) (nomark _)) (pe_cmpR op_lt (pe_bmF PySem.F.plainAttrs_tuple PySem.F.slot_tuple_index PySem.F.type_tuple_index (mt_tindex (K := K) (by exact rfl)) (pv 1) (pa_cons (pv 2) pa_nil)) (pe_bmF PySem.F.plainAttrs_tuple PySem.F.slot_tuple_index PySem.F.type_tuple_index (mt_tindex (K := K) (by exact rfl)) (pv 1) (pa_cons (pv 3) pa_nil)) (nomark _)) (nomark _)))), ?_⟩
  have ha2 := ha.sqt (K := K)
  have hb2 := hb.sqt (K := K)
  obtain ⟨oa, ha0, ha1, ha3⟩ := ha
  obtain ⟨ob, hb0, hb1, hb3⟩ := hb
  refine ⟨_, rfl, ⟨a, oa, _, rfl, ha0, ha1, ha3⟩, _, rfl, a, ns, x, i, rfl, rfl, ha2, h1, nd_first na h1, ?_⟩
  refine ⟨_, rfl, ⟨a, oa, _, rfl, ha0, ha1, ha3⟩, _, rfl, a, ns, y, j, rfl, rfl, ha2, h2, nd_first na h2, ?_⟩
  refine ⟨_, _, rfl, rfl, ?_⟩
  refine ⟨_, rfl, ⟨b, ob, _, rfl, hb0, hb1, hb3⟩, _, rfl, b, ms, x, i', rfl, rfl, hb2, h3, nd_first nb h3, ?_⟩
  refine ⟨_, rfl, ⟨b, ob, _, rfl, hb0, hb1, hb3⟩, _, rfl, b, ms, y, j', rfl, rfl, hb2, h4, nd_first nb h4, ?_⟩
  refine ⟨_, _, rfl, rfl, rfl, ?_⟩
  have e1 : decide (((i : Nat) : Int) < ((j : Nat) : Int)) = decide (i < j) := decide_eq_decide.mpr (by omega)
  have e2 : decide (((i' : Nat) : Int) < ((j' : Nat) : Int)) = decide (i' < j') := decide_eq_decide.mpr (by omega)
  show Q (.bl (!decide (V.bl (decide (((i : Nat) : Int) < ((j : Nat) : Int))) = V.bl (decide (((i' : Nat) : Int) < ((j' : Nat) : Int)))))) H
  rw [e1, e2]
  have e3 : (!decide (V.bl (decide (i < j)) = V.bl (decide (i' < j')))) = decide (decide (i < j) ≠ decide (i' < j')) := by
    cases decide (i < j) <;> cases decide (i' < j') <;> rfl
  rw [e3]
  exact q
theorem ok_rank1 (D : DefAt K mg "_law_rank" s_law_rank ["tape", "manner"]) (T0 : Txt K mg) (GDraw : CalX P w K mg base CX0 1 "_law_draw" ["tape", "many"] (spDraw K)) : CalX P w K mg base CX0 2 "_law_rank" ["tape", "manner"] (spRank1 K) := by
  refine D.ok sc_law_rank (fun vs H Q E h => ?_) (fun f cdv A outer s H vs Q E hr h => ?_)
  · obtain ⟨tp, ca, m, rfl, _⟩ := h
    rfl
  obtain ⟨tp, ca, m, rfl, hT', q'⟩ := h
  refine ⟨_, (pss_cons (ps_if (pt_cmpR op_eq (pv 1) pe_int (nomark _)) 
      (pss_one (ps_ret (pe_tup (pa_cons (pe_c0 GDraw hr (by decide) rfl (pa_cons (pv 0) (pa_cons pe_int pa_nil))) pa_nil)))) pss_nil) 
    (pss_cons (ps_if (pt_cmpR op_eq (pv 1) pe_int (nomark _)) 
      (pss_one (ps_ret (pe_callTy call_tuple_of (by rfl) T0.tuple PyProof.Rows.boot_tuple (pa_cons (pe_lc (own := [("k", 2)]) (g := gName 2) (tt := tYes) (by rfl) sc_law_rank.nd (pi_range1 (by rfl) T0.range (pa_cons (pe_c0 GDraw hr (by decide) rfl (pa_cons (pv 0) (pa_cons pe_int pa_nil))) pa_nil)) (blkOk_by (own := [("k", 2)]) (N := N_law_rank) (sc := defScope s_law_rank) (by decide +kernel)) (fun _ _ _ _ _ => pg_name (i := 2) sc_law_rank.nd rfl (Or.inl rfl)) (fun _ _ _ _ _ => pts_nil) (fun _ _ _ _ _ => by exact (pe_c0 GDraw hr (by decide) rfl (pa_cons (pv 0) (pa_cons pe_int pa_nil))))) pa_nil)))) pss_nil) 
    (pss_one (ps_ret (pe_tup (pa_cons (pe_op op_sub (pe_c0 GDraw hr (by decide) rfl (pa_cons (pv 0) (pa_cons pe_int pa_nil))) pe_int) pa_nil)))))), ?_⟩
  refine ⟨_, rfl, rfl, _, rfl, ?_⟩
  refine ite2 (fun _ => ?_) (fun _ => ?_)
  · refine ⟨_, rfl, tp, ca, 3, rfl, hT', by decide, by decide, fun H1 r hr1 R1 => ⟨(by show 1 ≤ sizeLine; decide), fun p hp => ?_⟩⟩
    have R2 := R1.same (same_new hp : Same H1 (upd H1 p (.tup [.int (r : Nat)])))
    refine q' _ p [(r : Nat)] R2 ⟨by show 1 ≤ 8; decide, fun i hi => ?_⟩ (R1.free hp) upd_same
    obtain rfl : i = (r : Nat) := by simpa using hi
    unfold rankB
    omega
  refine ⟨_, rfl, rfl, _, rfl, ?_⟩
  refine ite2 (fun _ => ?_) (fun _ => ?_)
  · refine ⟨_, rfl, tp, ca, 3, rfl, hT', by decide, by decide, fun H1 n hn R1 => ?_⟩
    refine ⟨_, rfl, by omega, by omega, fun Dl hDl => lc_range (lo := 0) (n := n) (fun k H' => Rn K tp ca H H' ∧ ∃ ns : List Int, H' Dl = some (.lst (ns.map V.int)) ∧ ns.length = k ∧ ∀ i ∈ ns, -rankB < i ∧ i < rankB) ⟨R1.mut (R1.free hDl), [], upd_same, rfl, fun i h => nomatch h⟩ ?_ ?_⟩
    · rintro k H' hk ⟨R2, ns, hD, hl, hb⟩
      refine ⟨rfl, _, rfl, tp, ca, 2, rfl, R2.b, by decide, by decide, fun H3 r hr3 R3 => ?_⟩
      refine ⟨_, R3.at hD (R1.b.new hDl), small1000 (by rw [List.length_map]; omega), (R2.trans R3).mut (R1.free hDl), ns ++ [((r : Nat) : Int)], by rw [upd_same, List.map_append]; rfl, by rw [List.length_append]; show ns.length + 1 = k + 1; omega, fun i hi => ?_⟩
      rcases List.mem_append.mp hi with hi | hi
      · exact hb i hi
      · obtain rfl : i = (r : Nat) := by simpa using hi
        unfold rankB
        omega
    · rintro H' ⟨R2, ns, hD, hl, hb⟩
      refine ⟨Dl, _, rfl, .inl ⟨SqL.of hD, fun l hl2 => ?_⟩⟩
      have R3 := R2.same (same_new hl2 : Same H' (upd H' l (.tup (ns.map V.int))))
      exact q' _ l ns R3 ⟨by omega, hb⟩ (R2.free hl2) upd_same
  refine ⟨_, rfl, tp, ca, 4001, rfl, hT', by decide, by decide, fun H1 r hr1 R1 => ⟨_, _, rfl, rfl, (by show 1 ≤ sizeLine; decide), fun p hp => ?_⟩⟩
  have R2 := R1.same (same_new hp : Same H1 (upd H1 p (.tup [.int ((r : Nat) - 2001)])))
  refine q' _ p [(r : Nat) - 2001] R2 ⟨by show 1 ≤ 8; decide, fun i hi => ?_⟩ (R1.free hp) upd_same
  obtain rfl : i = (r : Nat) - 2001 := by simpa using hi
  unfold rankB
  omega
theorem ok_orderF {f : Addr} {fd : FuncData} (F : Fun K "order" "Standing.order" s_Standing_order f fd) (T0 : Txt K mg) (SC : StCl K CS) (GO : CalX P w K mg base CX0 20 "order_at" ["tree", "lines", "node"] (spOrderAt K C 20)) : FnOk P w K mg base CX0 21 f fd ["self"] (spOrdF K C CS) := by
  refine F.ok sc_Standing_order (fun vs H Q E h => ?_) (fun cdv A outer s H vs Q E hr h => ?_)
  · obtain ⟨a, ta, la, sd, S, Ls, T, L, kv, rfl, _⟩ := h
    rfl
  obtain ⟨a, ta, la, sd, S, Ls, T, L, kv, rfl, st, hht, con, hL, q⟩ := h
  refine ⟨_, (pss_one (ps_ret (pe_callTy (call_tupleF (K := K) (by exact rfl)) (by rfl) T0.tuple PyProof.Rows.boot_tuple (pa_cons (pe_c0 GO hr (by decide) rfl (pa_cons (pe_fld (pv 0) rfl) (pa_cons (pe_fld (pv 0) rfl) (pa_cons pe_int pa_nil)))) pa_nil)))), ?_⟩
  obtain ⟨dx, hob⟩ := st.obj
  obtain ⟨_, _, _, _, _, _, _, h4⟩ := st.tree
  have hn := len_lt_nodes T
  refine ⟨_, rfl, a, CS, dx, _, _, rfl, hob, SC.cl, SC.nT, rfl, _, rfl, a, CS, dx, _, _, rfl, hob, SC.cl, SC.nL, rfl, ta, la, Ls, T, T, L, [], (by rw [idx_nil]; rfl), st.rd, con, sub_nil T, hht, by omega, hL, fun H' p s hp hp2 => ?_⟩
  refine ⟨p, _, rfl, SqL.of hp2, fun l ob hl hd hc => q _ l (s.trans (same_new hl)) (s.free hl) ⟨ob, upd_same, hd, hc⟩⟩
end
end K27
set_option Elab.async false
set_option linter.all false
set_option maxRecDepth 100000
set_option maxHeartbeats 8000000
namespace K27
open PySem PySem.Spec PyProof.Rows L2
/-! ### _law_slots -/
def encS : Option Int → Int | some x => x | none => -1
def slotI (ms : List Int) (s : Int) : List Int → List (Option Int)
  | [] => []
  | x :: ns => ((if x ∈ ms then none else some x) :: (if x = s then [none] else [])) ++ slotI ms s ns
def rowI (ms : List Int) (f z : Int) : List Int → List Int
  | [] => []
  | x :: ns => ((if x = f then [z] else []) ++ (if x ∈ ms then [x] else [])) ++ rowI ms f z ns
theorem slotI_app (ms : List Int) (s : Int) : ∀ a b : List Int, slotI ms s (a ++ b) = slotI ms s a ++ slotI ms s b
  | [], _ => rfl
  | x :: a, b => by
    show _ ++ slotI ms s (a ++ b) = (_ ++ slotI ms s a) ++ _
    rw [slotI_app ms s a b, List.append_assoc]
theorem rowI_app (ms : List Int) (f z : Int) : ∀ a b : List Int, rowI ms f z (a ++ b) = rowI ms f z a ++ rowI ms f z b
  | [], _ => rfl
  | x :: a, b => by
    show _ ++ rowI ms f z (a ++ b) = (_ ++ rowI ms f z a) ++ _
    rw [rowI_app ms f z a b]
    simp only [List.append_assoc]
theorem slotI_len (ms : List Int) (s : Int) : ∀ a : List Int, (slotI ms s a).length ≤ 2 * a.length
  | [] => Nat.zero_le _
  | x :: a => by
    have := slotI_len ms s a
    show (((if x ∈ ms then none else some x) :: (if x = s then [none] else [])) ++ slotI ms s a).length ≤ 2 * (a.length + 1)
    rw [List.length_append, List.length_cons]
    split <;> simp <;> omega
theorem rowI_len (ms : List Int) (f z : Int) : ∀ a : List Int, (rowI ms f z a).length ≤ 2 * a.length
  | [] => Nat.zero_le _
  | x :: a => by
    have := rowI_len ms f z a
    show (((if x = f then [z] else []) ++ (if x ∈ ms then [x] else [])) ++ rowI ms f z a).length ≤ 2 * (a.length + 1)
    rw [List.length_append, List.length_append]
    split <;> split <;> simp <;> omega
theorem fill_snoc : ∀ (ss : List (Option Int)) (R : List Int) (o : Option Int), fillL (ss ++ [o]) R = fillL ss R ++ [match o with | some x => x | none => (R.drop (ss.countP Option.isNone)).headD 0]
  | [], R, o => by cases o <;> rfl
  | some x :: ss, R, o => by
    show x :: fillL (ss ++ [o]) R = _
    rw [fill_snoc ss R o, List.countP_cons_of_neg (by simp)]
    rfl
  | none :: ss, R, o => by
    show R.headD 0 :: fillL (ss ++ [o]) R.tail = _
    have e : R.tail.drop (ss.countP Option.isNone) = R.drop (ss.countP Option.isNone + 1) := by rw [← List.drop_one, List.drop_drop, Nat.add_comm]
    rw [fill_snoc ss R.tail o, List.countP_cons_of_pos (by simp), e]
    rfl
theorem fill_len : ∀ (ss : List (Option Int)) (R : List Int), (fillL ss R).length = ss.length
  | [], _ => rfl
  | some x :: ss, R => congrArg (· + 1) (fill_len ss R)
  | none :: ss, R => congrArg (· + 1) (fill_len ss R.tail)
def spSlots (K : PySem.W.Frag) : Sp := fun vs H Q _ => ∃ (a b : Addr) (ns ms : List Int) (f s z : Int), vs = [.ref a, .ref b, .int f, .int s, .int z] ∧ SqT K H a (ns.map V.int) ∧ SqL K H b (ms.map V.int) ∧ ns.length ≤ 400 ∧ (∀ x ∈ ns, 0 ≤ x) ∧ (slotI ms s ns).countP Option.isNone ≤ (rowI ms f z ns).length ∧
  ∀ H' p, Same H H' → H p = none → H' p = some (.tup ((fillL (slotI ms s ns) (rowI ms f z ns)).map V.int)) → Q (.ref p) H'
theorem same_sql {K : PySem.W.Frag} {H H' : Hp} {a : Addr} {xs : List V} (e : Same H H') (h : SqL K H a xs) : SqL K H' a xs := by
  rcases h with (h | ⟨o, h⟩) | h
  · exact .inl (.inl (e _ _ h))
  · exact .inl (.inr ⟨o, e _ _ h⟩)
  · exact .inr h
/-- the two lists that grow -/
structure SI (H : Hp) (sl rw : Addr) (X : List (Option Int)) (Y : List Int) (H' : Hp) : Prop where
  sm : Same H H'
  s : H' sl = some (.lst ((X.map encS).map V.int))
  r : H' rw = some (.lst (Y.map V.int))
theorem SI.appS {H : Hp} {sl rw : Addr} {X : List (Option Int)} {Y : List Int} {H' : Hp} (h : SI H sl rw X Y H') (ne : sl ≠ rw) (n : H sl = none) (o : Option Int) : SI H sl rw (X ++ [o]) Y (upd H' sl (.lst ((X.map encS).map V.int ++ [.int (encS o)]))) :=
  ⟨same_mut h.sm n, by rw [upd_same, List.map_append, List.map_append]; rfl, by rw [upd_ne ne.symm]; exact h.r⟩
theorem SI.appR {H : Hp} {sl rw : Addr} {X : List (Option Int)} {Y : List Int} {H' : Hp} (h : SI H sl rw X Y H') (ne : sl ≠ rw) (n : H rw = none) (y : Int) : SI H sl rw X (Y ++ [y]) (upd H' rw (.lst (Y.map V.int ++ [.int y]))) :=
  ⟨same_mut h.sm n, by rw [upd_ne ne]; exact h.s, by rw [upd_same, List.map_append]; rfl⟩
theorem deqI (x y : Int) : decide (V.int x = V.int y) = decide (x = y) := decide_eq_decide.mpr ⟨fun z => by injection z, fun z => by rw [z]⟩
section
variable {P : Program} {w : World} {K : PySem.W.Frag} {mg : Str → Option Value} {base : Heap} {C CS U fG : Addr}
theorem ok_slots (D : DefAt K mg "_law_slots" s_law_slots ["order", "side", "first", "second", "fresh"]) (T0 : Txt K mg) : CalX P w K mg base CX0 1 "_law_slots" ["order", "side", "first", "second", "fresh"] (spSlots K) := by
  refine D.ok sc_law_slots (fun vs H Q E h => ?_) (fun f cdv A outer s H vs Q E hr h => ?_)
  · obtain ⟨a, b, ns, ms, f, s, z, rfl, _⟩ := h
    rfl
  obtain ⟨a, b, ns, ms, fi, se, fr, rfl, ha, hb, hn, hpos, hcnt, q⟩ := h
  refine ⟨_, (pss_cons (ps_set (i := 5) sc_law_slots.nd rfl (.inl rfl) (pe_lst pa_nil)) 
    (pss_cons (ps_set (i := 6) sc_law_slots.nd rfl (.inl rfl) (pe_lst pa_nil)) 
    (pss_cons (ps_for PassesOwn.never rfl (pi_tup (pv 0)) (pg_name (i := 7) sc_law_slots.nd rfl (Or.inl rfl)) 
      (pss_cons (ps_conv (t' := (fun D σ H' => ∃ sl rw X Y x o8 o9 o10, σ = [some (.ref a), some (.ref b), some (.int fi), some (.int se), some (.int fr), some (.ref sl), some (.ref rw), some (.int x), o8, o9, o10] ∧ sl ≠ rw ∧ H sl = none ∧ H rw = none ∧ X.length ≤ 810 ∧ Y.length ≤ 810 ∧ SI H sl rw X Y H' ∧ ∀ H'', SI H sl rw X (Y ++ (if x = fi then [fr] else [])) H'' → D.nx [some (.ref a), some (.ref b), some (.int fi), some (.int se), some (.int fr), some (.ref sl), some (.ref rw), some (.int x), o8, o9, o10] H'')) (ps_if (pt_cmpR op_eq (pv 7) (pv 2) (nomark _)) 
        (pss_one (ps_expr (pe_bm PySem.F.plainAttrs_list PySem.F.slot_list_append PySem.F.type_list_append mt_append (pv 6) (pa_cons (pv 4) pa_nil)))) pss_nil) (by
      rintro D σ H' ⟨sl, rw, X, Y, x, o8, o9, o10, rfl, ne, hs0, hr0, hX, hY, I, k⟩
      refine ⟨_, rfl, _, rfl, rfl, _, rfl, ?_⟩
      rw [deqI]
      by_cases c : x = fi
      · rw [if_pos c] at k
        rw [decide_eq_true c]
        refine iteT ⟨_, rfl, .inl ⟨rfl, _, SqL.of I.r⟩, _, rfl, rw, _, _, rfl, rfl, I.r, small1000 (by rw [List.length_map]; omega), k _ (I.appR ne hr0 fr)⟩
      · rw [if_neg c, List.append_nil] at k
        rw [decide_eq_false c]
        exact iteF (k _ I))) 
      (pss_cons (ps_conv (t' := (fun D σ H' => ∃ sl rw X Y x o8 o9 o10, σ = [some (.ref a), some (.ref b), some (.int fi), some (.int se), some (.int fr), some (.ref sl), some (.ref rw), some (.int x), o8, o9, o10] ∧ sl ≠ rw ∧ H sl = none ∧ H rw = none ∧ X.length ≤ 810 ∧ Y.length ≤ 811 ∧ SI H sl rw X Y H' ∧ ∀ H'', SI H sl rw (X ++ [if x ∈ ms then none else some x]) (Y ++ (if x ∈ ms then [x] else [])) H'' → D.nx [some (.ref a), some (.ref b), some (.int fi), some (.int se), some (.int fr), some (.ref sl), some (.ref rw), some (.int x), o8, o9, o10] H'')) (ps_if (pt_cmpR op_in_seq (pv 7) (pv 1) (by rfl)) 
        (pss_cons (ps_expr (pe_bm PySem.F.plainAttrs_list PySem.F.slot_list_append PySem.F.type_list_append mt_append (pv 6) (pa_cons (pv 7) pa_nil))) 
        (pss_one (ps_expr (pe_bm PySem.F.plainAttrs_list PySem.F.slot_list_append PySem.F.type_list_append mt_append (pv 5) (pa_cons (pe_un un_neg pe_int) pa_nil))))) 
        (pss_one (ps_expr (pe_bm PySem.F.plainAttrs_list PySem.F.slot_list_append PySem.F.type_list_append mt_append (pv 5) (pa_cons (pv 7) pa_nil))))) (by
      rintro D σ H' ⟨sl, rw, X, Y, x, o8, o9, o10, rfl, ne, hs0, hr0, hX, hY, I, k⟩
      refine ⟨_, rfl, _, rfl, b, _, rfl, .inl (same_sql I.sm hb), rfl, flat_ints ms, _, rfl, ?_⟩
      show (if (inV (V.int x) (ms.map V.int)) = true then _ else _ : Prop)
      rw [in_ints]
      by_cases c : x ∈ ms
      · rw [if_pos c, if_pos c] at k
        rw [decide_eq_true c]
        refine iteT ⟨_, rfl, .inl ⟨rfl, _, SqL.of I.r⟩, _, rfl, rw, _, _, rfl, rfl, I.r, small1000 (by rw [List.length_map]; omega), ?_⟩
        have I2 := I.appR ne hr0 x
        exact ⟨_, rfl, .inl ⟨rfl, _, SqL.of I2.s⟩, _, rfl, sl, _, _, rfl, rfl, I2.s, small1000 (by rw [List.length_map, List.length_map]; omega), k _ (I2.appS ne hs0 none)⟩
      · rw [if_neg c, if_neg c, List.append_nil] at k
        rw [decide_eq_false c]
        exact iteF ⟨_, rfl, .inl ⟨rfl, _, SqL.of I.s⟩, _, rfl, sl, _, _, rfl, rfl, I.s, small1000 (by rw [List.length_map, List.length_map]; omega), k _ (I.appS ne hs0 (some x))⟩))      (pss_one (ps_if (pt_cmpR op_eq (pv 7) (pv 3) (nomark _)) 
        (pss_one (ps_expr (pe_bm PySem.F.plainAttrs_list PySem.F.slot_list_append PySem.F.type_list_append mt_append (pv 5) (pa_cons (pe_un un_neg pe_int) pa_nil)))) pss_nil))))) 
    (pss_cons (ps_set (i := 8) sc_law_slots.nd rfl (.inl rfl) (pe_lst pa_nil)) 
    (pss_cons (ps_set (i := 9) sc_law_slots.nd rfl (.inl rfl) pe_int) 
    (pss_cons (ps_for PassesOwn.never rfl (pi_list (pv 5)) (pg_name (i := 10) sc_law_slots.nd rfl (Or.inl rfl)) 
      (pss_one (ps_if (pt_cmpR op_lt (pv 10) pe_int (nomark _)) 
        (pss_cons (ps_expr (pe_bm PySem.F.plainAttrs_list PySem.F.slot_list_append PySem.F.type_list_append mt_append (pv 8) (pa_cons (pe_ix ix_list (pv 6) (pv 9) (fun _ _ => rfl)) pa_nil))) 
        (pss_one (ps_aug (i := 9) sc_law_slots.nd rfl (.inl rfl) pe_int ip_add))) 
        (pss_one (ps_expr (pe_bm PySem.F.plainAttrs_list PySem.F.slot_list_append PySem.F.type_list_append mt_append (pv 8) (pa_cons (pv 10) pa_nil))))))) 
    (pss_one (ps_ret (pe_callTy call_tuple_of (by rfl) T0.tuple PyProof.Rows.boot_tuple (pa_cons (pv 8) pa_nil)))))))))), ?_⟩
  refine ⟨(by show 0 ≤ sizeLine; decide), fun sl hsl => ⟨(by show 0 ≤ sizeLine; decide), fun rw hrw => ?_⟩⟩
  have ne : sl ≠ rw := fun e => by
    rw [← e, upd_same] at hrw
    exact nomatch hrw
  have hr0 : H rw = none := (same_new hsl).free hrw
  refine ⟨_, rfl, a, rfl, ⟨_, same_sqt ((same_new hsl).trans (same_new hrw)) ha⟩, for_tup (K := K) (a := a) (xs := ns.map V.int) (fun k σ H' => ∃ o7 o8 o9 o10, σ = [some (.ref a), some (.ref b), some (.int fi), some (.int se), some (.int fr), some (.ref sl), some (.ref rw), o7, o8, o9, o10] ∧ SI H sl rw (slotI ms se (ns.take k)) (rowI ms fi fr (ns.take k)) H') ⟨_, _, _, _, rfl, ⟨(same_new hsl).trans (same_new hrw), by rw [upd_ne ne]; exact upd_same, upd_same⟩⟩ (fun k σ H' _ hh => ?_) ?_ ?_⟩
  · obtain ⟨_, _, _, _, _, I⟩ := hh
    exact same_sqt I.sm ha
  · rintro k v σ H' hk ⟨o7, o8, o9, o10, rfl, I⟩
    rw [List.getElem?_map] at hk
    obtain ⟨x, hx, rfl⟩ := Option.map_eq_some_iff.mp hk
    have hkl := (List.getElem?_eq_some_iff.mp hx).1
    have hX := slotI_len ms se (ns.take k)
    have hY := rowI_len ms fi fr (ns.take k)
    have htl : (ns.take k).length ≤ k := List.length_take_le ..
    have e1 : slotI ms se (ns.take (k + 1)) = slotI ms se (ns.take k) ++ ((if x ∈ ms then none else some x) :: (if x = se then [none] else [])) := by
      rw [List.take_add_one, hx, slotI_app]
      show _ ++ (_ ++ []) = _
      rw [List.append_nil]
    have e2 : rowI ms fi fr (ns.take (k + 1)) = rowI ms fi fr (ns.take k) ++ ((if x = fi then [fr] else []) ++ (if x ∈ ms then [x] else [])) := by
      rw [List.take_add_one, hx, rowI_app]
      show _ ++ (_ ++ []) = _
      rw [List.append_nil]
    refine ⟨sl, rw, _, _, x, o8, o9, o10, rfl, ne, hsl, hr0, by omega, by omega, I, fun H2 I2 => ?_⟩
    refine ⟨sl, rw, _, _, x, o8, o9, o10, rfl, ne, hsl, hr0, by omega, (by rw [List.length_append]; split <;> simp <;> omega), I2, fun H3 I3 => ?_⟩
    rw [List.append_assoc] at I3
    rw [← e2] at I3
    refine ⟨_, rfl, _, rfl, rfl, _, rfl, ?_⟩
    rw [deqI]
    by_cases c : x = se
    · rw [decide_eq_true c]
      refine iteT ⟨_, rfl, .inl ⟨rfl, _, SqL.of I3.s⟩, _, rfl, sl, _, _, rfl, rfl, I3.s, small1000 (by rw [List.length_map, List.length_map, List.length_append]; show _ + 1 ≤ _; omega), ?_⟩
      have I4 := I3.appS ne hsl none
      rw [List.append_assoc, show ([if x ∈ ms then none else some x] : List (Option Int)) ++ [none] = (if x ∈ ms then none else some x) :: (if x = se then [none] else []) by rw [if_pos c]; rfl, ← e1] at I4
      exact ⟨_, _, _, _, rfl, I4⟩
    · rw [decide_eq_false c]
      rw [show ([if x ∈ ms then none else some x] : List (Option Int)) = (if x ∈ ms then none else some x) :: (if x = se then [none] else []) by rw [if_neg c], ← e1] at I3
      exact iteF ⟨_, _, _, _, rfl, I3⟩
  · rintro σ H' ⟨o7, o8, o9, o10, rfl, I⟩
    rw [List.length_map, List.take_length] at I
    have hX := slotI_len ms se ns
    have hY := rowI_len ms fi fr ns
    refine ⟨(by show 0 ≤ sizeLine; decide), fun tl htl => ?_⟩
    have s2 : Same H' (upd H' tl (.lst [])) := same_new htl
    have t2 : (upd H' tl (.lst [])) tl = some (.lst []) := upd_same
    have ht0 : H tl = none := I.sm.free htl
    have nst : tl ≠ sl := fun e => by rw [e, I.s] at htl; exact nomatch htl
    have nrt : tl ≠ rw := fun e => by rw [e, I.r] at htl; exact nomatch htl
    have I2 : SI H sl rw (slotI ms se ns) (rowI ms fi fr ns) (upd H' tl (.lst [])) := ⟨I.sm.trans s2, s2 _ _ I.s, s2 _ _ I.r⟩
    revert t2 I2
    generalize upd H' tl (.lst []) = H2
    intro t2 I2
    refine ⟨_, rfl, sl, rfl, ⟨_, SqL.of I2.s⟩, for_list (K := K) (a := sl) (xs := ((slotI ms se ns).map encS).map V.int) (fun k σ H' => ∃ o10, σ = [some (.ref a), some (.ref b), some (.int fi), some (.int se), some (.int fr), some (.ref sl), some (.ref rw), o7, some (.ref tl), some (.int (((slotI ms se ns).take k).countP Option.isNone : Nat)), o10] ∧ SI H sl rw (slotI ms se ns) (rowI ms fi fr ns) H' ∧ H' tl = some (.lst ((fillL ((slotI ms se ns).take k) (rowI ms fi fr ns)).map V.int))) ⟨_, rfl, I2, t2⟩ (fun k σ H' _ hh => ?_) ?_ ?_⟩
    · obtain ⟨_, _, I3, _⟩ := hh
      exact SqL.of I3.s
    · rintro k v σ H3 hk ⟨o10, rfl, I3, t3⟩
      rw [List.getElem?_map, List.getElem?_map] at hk
      obtain ⟨x, hx, rfl⟩ := Option.map_eq_some_iff.mp hk
      obtain ⟨o, ho, rfl⟩ := Option.map_eq_some_iff.mp hx
      have hkl := (List.getElem?_eq_some_iff.mp ho).1
      have etk : (slotI ms se ns).take (k + 1) = (slotI ms se ns).take k ++ [o] := by rw [List.take_add_one, ho]; rfl
      have hfl : (fillL ((slotI ms se ns).take k) (rowI ms fi fr ns)).length ≤ k := by rw [fill_len]; exact List.length_take_le ..
      refine ⟨_, rfl, _, _, rfl, rfl, _, rfl, ?_⟩
      cases o with
      | none =>
        refine iteT ?_
        have hc : ((slotI ms se ns).take (k + 1)).countP Option.isNone ≤ (slotI ms se ns).countP Option.isNone := List.Sublist.countP_le (List.take_sublist ..)
        rw [etk, List.countP_append] at hc
        have hc2 : ((slotI ms se ns).take k).countP Option.isNone + 1 ≤ (slotI ms se ns).countP Option.isNone := hc
        have hlt : ((slotI ms se ns).take k).countP Option.isNone < (rowI ms fi fr ns).length := by omega
        have hat : ((rowI ms fi fr ns).map V.int)[((slotI ms se ns).take k).countP Option.isNone]? = some (.int ((rowI ms fi fr ns)[((slotI ms se ns).take k).countP Option.isNone]'hlt)) := by
          rw [List.getElem?_map, List.getElem?_eq_getElem hlt]
          rfl
        refine ⟨_, rfl, .inl ⟨rfl, _, SqL.of t3⟩, _, rfl, _, rfl, rw, _, _, _, rfl, rfl, SqL.of I3.r, atI_nat hat, tl, _, _, rfl, rfl, t3, small1000 (by rw [List.length_map]; omega), ?_⟩
        refine ⟨_, rfl, _, _, rfl, rfl, ?_⟩
        refine ⟨some (.int (encS none)), ?_, ⟨same_mut I3.sm ht0, by rw [upd_ne nst.symm]; exact I3.s, by rw [upd_ne nrt.symm]; exact I3.r⟩, ?_⟩
        · rw [etk, List.countP_append]
          rfl
        · rw [upd_same, etk, fill_snoc, List.map_append]
          dsimp only
          rw [List.drop_eq_getElem_cons hlt]
          rfl
      | some x =>
        have hx0 : 0 ≤ x := by
          have hm := List.mem_of_getElem? ho
          have : ∀ l : List Int, (∀ y ∈ l, 0 ≤ y) → some x ∈ slotI ms se l → 0 ≤ x := by
            intro l
            induction l with
            | nil => exact fun _ h => nomatch h
            | cons y l ih =>
              intro hl h
              rcases List.mem_append.mp (show some x ∈ ((if y ∈ ms then none else some y) :: (if y = se then [none] else [])) ++ slotI ms se l from h) with h | h
              · rcases List.mem_cons.mp h with h | h
                · split at h
                  · exact nomatch h
                  · rw [Option.some.inj h]
                    exact hl y (List.mem_cons_self ..)
                · split at h
                  · exact nomatch List.mem_singleton.mp h
                  · exact nomatch h
              · exact ih (fun z hz => hl z (List.mem_cons_of_mem _ hz)) h
          exact this ns hpos hm
        show (if decide (x < 0) = true then _ else _ : Prop)
        rw [decide_eq_false (by omega)]
        refine iteF ?_
        refine ⟨_, rfl, .inl ⟨rfl, _, SqL.of t3⟩, _, rfl, tl, _, _, rfl, rfl, t3, small1000 (by rw [List.length_map]; omega), ?_⟩
        refine ⟨some (.int (encS (some x))), ?_, ⟨same_mut I3.sm ht0, by rw [upd_ne nst.symm]; exact I3.s, by rw [upd_ne nrt.symm]; exact I3.r⟩, ?_⟩
        · rw [etk, List.countP_append]
          rfl
        · rw [upd_same, etk, fill_snoc, List.map_append]
          rfl
    · rintro σ H3 ⟨o10, rfl, I3, t3⟩
      rw [List.length_map, List.length_map, List.take_length] at t3
      exact ⟨_, rfl, tl, _, rfl, .inl ⟨SqL.of t3, fun l hl => q _ l (I3.sm.trans (same_new hl)) (I3.sm.free hl) upd_same⟩⟩
end
end K27
set_option Elab.async false
set_option linter.all false
set_option maxRecDepth 100000
set_option maxHeartbeats 8000000
namespace K27
open PySem PySem.Spec PyProof.Rows L2 Evl
open Dt (sub sub_nil sub_app sub_one sub_pre lcp lv ad sub_ad isLf isLf_o idx_lt ad_len)
/-! ### _law_paths -/
theorem op_catAK {X : Cx} {K : PySem.W.Frag} (e : X.K = K) : OpR X (binaryOp .Add) (rCatA K) := by subst e; exact op_catA
theorem eu_cat {K : PySem.W.Frag} {σ : L2.St} {H : Hp} {ta tb : TE} {a : Addr} {xs ys : List V} (ha : Ev ta σ H (.ref a)) (hs : SqT K H a xs) (hb : EvU tb σ H ys) (hy : ys ≠ []) (hz : xs.length + ys.length ≤ 100000) : EvU (tOp (rCatA K) ta tb) σ H (xs ++ ys) := fun H1 e Q q =>
  ha H1 e _ fun H2 e2 => hb H2 (e.trans e2) _ fun p H3 hp e3 h3 => ⟨a, p, xs, ys, rfl, rfl, ex_t ((e.trans e2).trans e3) hs, st_of h3, sz_of hz, fun hx => by
    subst hx
    exact q p H3 (fresh_back e2 hp) (e2.trans e3) h3, fun _ z => absurd z hy, fun _ _ p' hp' => q p' _ (fresh_back (e2.trans e3) hp') ((e2.trans e3).trans (Ex.new hp')) upd_same⟩
structure PTI (K : PySem.W.Frag) (H0 H : Hp) (pl td : Addr) (T : Dt) (done pend : List Ad) : Prop where
  sm : Same H0 H
  sp : ad T = done ++ pblk T pend
  ok : ∀ q ∈ pend, ∃ u, sub T q = some u
  pp : ∃ ps, H pl = some (.lst ps) ∧ Paired (fun v p => ∃ b, v = V.ref b ∧ SqT K (offS [pl, td] H) b (intsN p)) ps (done.filter (isLf T))
  tt : ∃ xs, H td = some (.lst xs) ∧ Paired (fun v q => ∃ u b c fv, sub T q = some u ∧ v = V.ref b ∧ offS [pl, td] H b = some (.tup [fv, .ref c]) ∧ SqT K (offS [pl, td] H) c (intsN q) ∧ ShV K H0 fv u) xs pend.reverse
def spPaths (K : PySem.W.Frag) : Sp := fun vs H Q _ => ∃ (fv : V) (T : Dt), vs = [fv] ∧ ShV K H fv T ∧ T.nodes ≤ 100 ∧ T.ht < 20 ∧ ∀ H' pl, Same H H' → H pl = none → PathsT K H' pl T → Q (.ref pl) H'
section
variable {P : Program} {w : World} {K : PySem.W.Frag} {mg : Str → Option Value} {base : Heap}
theorem ok_paths (D : DefAt K mg "_law_paths" s_law_paths ["form"]) (T0 : Txt K mg) : CalX P w K mg base CX0 1 "_law_paths" ["form"] (spPaths K) := by
  refine D.ok sc_law_paths (fun vs H Q E h => ?_) (fun f cdv A outer s H vs Q E hr h => ?_)
  · obtain ⟨fv, T, rfl, _⟩ := h
    rfl
  obtain ⟨fv, T, rfl, hfv, hno, hht, q⟩ := h
  have hu := hu_of hr
  refine ⟨_, (pss_cons (ps_set (i := 1) sc_law_paths.nd rfl (.inl rfl) (pe_lst pa_nil)) 
    (pss_cons (ps_set (i := 2) sc_law_paths.nd rfl (.inl rfl) (pe_lst (pa_cons (pe_tup (pa_cons (pv 0) (pa_cons (pe_tup pa_nil) pa_nil))) pa_nil))) 
    (pss_cons (ps_for PassesOwn.never rfl (pi_range1 (by rfl) T0.range (pa_cons pe_int pa_nil)) (pg_name (i := 3) sc_law_paths.nd rfl (Or.inl rfl)) 
      (pss_one (ps_if (pt_cmpR op_gt (pe_callB call_len_seq (by rfl) T0.len PySem.boot_len (pa_cons (pv 2) pa_nil)) pe_int (nomark _)) 
        (pss_cons (ps_asg (pe_bm0 PySem.F.plainAttrs_list PySem.F.slot_list_pop PySem.F.type_list_pop mt_pop (pv 2)) (pg_tup (by rfl) (pgs_cons (pg_name (i := 4) sc_law_paths.nd rfl (Or.inr rfl)) (pgs_cons (pg_name (i := 5) sc_law_paths.nd rfl (Or.inr rfl)) pgs_nil)))) 
        (pss_cut (ps_if (pt_cmpR op_eq (pe_callB call_len_seq (by rfl) T0.len PySem.boot_len (pa_cons (pv 4) pa_nil)) pe_int (nomark _)) 
          (pss_one (ps_expr (pe_bm PySem.F.plainAttrs_list PySem.F.slot_list_append PySem.F.type_list_append mt_append (pv 1) (pa_cons (pv 5) pa_nil)))) pss_nil) 
        (pss_cons (ps_set (i := 6) sc_law_paths.nd rfl (.inr rfl) (pe_op op_sub (pe_callB call_len_seq (by rfl) T0.len PySem.boot_len (pa_cons (pv 4) pa_nil)) pe_int)) 
        (pss_one (ps_expr (pe_bm PySem.F.plainAttrs_list PySem.F.slot_list_extend PySem.F.type_list_extend mt_extend (pv 2) (pa_cons (pe_lc (own := [("k", 7)]) (g := gName 7) (tt := tYes) (by rfl) sc_law_paths.nd (pi_range1 (by rfl) T0.range (pa_cons (pe_callB call_len_seq (by rfl) T0.len PySem.boot_len (pa_cons (pv 4) pa_nil)) pa_nil)) (blkOk_by (own := [("k", 7)]) (N := N_law_paths) (sc := defScope s_law_paths) (by decide +kernel)) (fun _ _ _ _ _ => pg_name (i := 7) sc_law_paths.nd rfl (Or.inl rfl)) (fun _ _ _ _ _ => pts_nil) (fun _ _ _ _ _ => by exact (pe_tup (pa_cons (pe_ix (ix_tupK (K := K) (by exact rfl)) (pv 4) (pe_op op_sub (pv 6) (pv 7)) (fun _ _ => rfl)) (pa_cons (pe_op (op_catAK (K := K) (by exact rfl)) (pv 5) (pe_tup (pa_cons (pe_op op_sub (pv 6) (pv 7)) pa_nil))) pa_nil))))) pa_nil))))))) pss_nil))) 
    (pss_one (ps_ret (pv 1)))))), ?_⟩
  refine ⟨(by show 0 ≤ sizeLine; decide), fun pl hpl => ?_⟩
  have s1 : Same H (upd H pl (.lst [])) := same_new hpl
  have p1 : (upd H pl (.lst [])) pl = some (.lst []) := upd_same
  revert s1 p1
  generalize upd H pl (.lst []) = H1
  intro s1 p1
  refine ⟨_, rfl, (by show 0 ≤ sizeLine; decide), fun c0 hc0 => ⟨(by show 2 ≤ sizeLine; decide), fun b0 hb0 => ⟨(by show 1 ≤ sizeLine; decide), fun td htd => ?_⟩⟩⟩
  have s2 : Same H1 (upd H1 c0 (.tup [])) := same_new hc0
  have c2 : (upd H1 c0 (.tup [])) c0 = some (.tup []) := upd_same
  revert s2 c2 hb0 htd
  generalize upd H1 c0 (.tup []) = H2
  intro hb0 htd s2 c2
  have s3 : Same H2 (upd H2 b0 (.tup [fv, .ref c0])) := same_new hb0
  have b3 : (upd H2 b0 (.tup [fv, .ref c0])) b0 = some (.tup [fv, .ref c0]) := upd_same
  revert s3 b3 htd
  generalize upd H2 b0 (.tup [fv, .ref c0]) = H3
  intro htd s3 b3
  have s4 : Same H3 (upd H3 td (.lst [.ref b0])) := same_new htd
  have t4 : (upd H3 td (.lst [.ref b0])) td = some (.lst [.ref b0]) := upd_same
  revert s4 t4
  generalize upd H3 td (.lst [.ref b0]) = H4
  intro s4 t4
  have f1 : H pl = none := hpl
  have f2 : H td = none := s1.free (s2.free (s3.free htd))
  have p4 := s4 _ _ (s3 _ _ (s2 _ _ p1))
  have c4 := s4 _ _ (s3 _ _ c2)
  have b4 := s4 _ _ b3
  have npt : pl ≠ td := fun z => by rw [← z, s3 _ _ (s2 _ _ p1)] at htd; exact nomatch htd
  have nS : ∀ y ys, H4 y = some (.tup ys) → y ∉ [pl, td] := fun y ys hy z => by
    simp only [List.mem_cons, List.not_mem_nil, or_false] at z
    rcases z with z | z
    · rw [z, p4] at hy; exact nomatch hy
    · rw [z, t4] at hy; exact nomatch hy
  have start : PTI K H H4 pl td T [] [[]] := by
    refine ⟨s1.trans (s2.trans (s3.trans s4)), ?_, fun q hq => ?_, ⟨[], p4, .nil⟩, ⟨[.ref b0], t4, .cons ⟨T, b0, c0, fv, sub_nil T, rfl, by rw [offS_ne (nS _ _ b4)]; exact b4, SqT.of (by rw [offS_ne (nS _ _ c4)]; exact c4), hfv⟩ .nil⟩⟩
    · show ad T = (match sub T [] with | some u => (ad u).map ([] ++ ·) | none => []) ++ []
      rw [sub_nil, List.append_nil]
      simp
    · rw [List.mem_singleton.mp hq]
      exact ⟨T, sub_nil T⟩
  refine ⟨200, rfl, by decide, by decide, for_range (lo := 0) (n := 200) (fun m σ H' => ∃ (o3 o4 o5 o6 o7 : Option V) (done pend : List Ad), σ = [some fv, some (.ref pl), some (.ref td), o3, o4, o5, o6, o7] ∧ PTI K H H' pl td T done pend ∧ (pend = [] ∨ done.length = m))
    ⟨_, _, _, _, _, [], [[]], rfl, start, .inr rfl⟩ ?_ ?_⟩
  · rintro m σ H6 hm ⟨o3, o4, o5, o6, o7, done, pend, rfl, I, hmd⟩
    obtain ⟨xs, hxs, hP⟩ := I.tt
    have hxl := Paired.lenE hP
    rw [List.length_reverse] at hxl
    refine ⟨_, rfl, td, xs, rfl, .inl (SqL.of hxs), _, _, rfl, rfl, _, rfl, ?_⟩
    refine ite2 (fun hc => ?_) (fun hc => ?_)
    · cases pend with
      | nil =>
        have : (0 : Int) < (xs.length : Nat) := of_decide_eq_true hc
        rw [hxl] at this
        exact absurd this (by decide)
      | cons q0 r =>
      have hdm : done.length = m := hmd.resolve_left fun z => nomatch z
      obtain ⟨xs', vq, rfl, hP', u, b, cq, fvq, hu0, rfl, hb, hcq, hsv⟩ := Paired.un (b := r.reverse) (y := q0) (by rw [List.reverse_cons] at hP; exact hP)
      have hsp := I.sp
      rw [pblk_pop hu0] at hsp
      have hdl : done.length ≤ 100 := by
        have := congrArg List.length hsp
        rw [ad_len, List.length_append] at this
        omega
      have hq0 : q0 ∈ ad T := sub_ad hu0
      have hql : q0.length ≤ 20 := by have := ht_sub q0 T u hu0; omega
      have hul : u.len ≤ 100 := by
        have z1 := idx_lt hu0
        have z2 := len_lt_nodes u
        omega
      obtain ⟨ps, hps, hPs⟩ := I.pp
      have hpsl := Paired.lenE hPs
      have hpsl2 : (done.filter (isLf T)).length ≤ done.length := List.length_filter_le ..
      have hxs'l := Paired.lenE hP'
      have hsl := sizeLine_eq
      have hrl : r.length ≤ 100 := by
        have hlen : ∀ l : List Ad, (∀ q ∈ l, ∃ u, sub T q = some u) → l.length ≤ (pblk T l).length := by
          intro l
          induction l with
          | nil => exact fun _ => Nat.le_refl _
          | cons a l ih =>
            intro hl
            obtain ⟨ua, hua⟩ := hl a (List.mem_cons_self ..)
            have := ih fun q hq => hl q (List.mem_cons_of_mem _ hq)
            show l.length + 1 ≤ ((match sub T a with | some u => (ad u).map (a ++ ·) | none => []) ++ pblk T l).length
            rw [hua, List.length_append, List.length_map, ad_len]
            have := ua.nodes_pos
            omega
        have h1 := hlen r fun q hq => I.ok q (List.mem_cons_of_mem _ hq)
        have h2 := congrArg List.length hsp
        rw [ad_len, List.length_append, List.length_cons, pblk_app, List.length_append] at h2
        omega
      rw [List.length_reverse] at hxs'l
      have mpl : pl ∈ [pl, td] := by simp
      have mtd : td ∈ [pl, td] := by simp
      refine ⟨_, rfl, .inl ⟨rfl, _, SqL.of hxs⟩, td, _, .ref b, rfl, rfl, hxs, (by simp), ?_⟩
      rw [List.dropLast_concat]
      have g7 : GoS [pl, td] H6 (upd H6 td (.lst xs')) := GoS.refl.upd mtd
      have m7 : Same H (upd H6 td (.lst xs')) := same_mut I.sm f2
      have pl7 : (upd H6 td (.lst xs')) pl = some (.lst ps) := by rw [upd_ne npt]; exact hps
      have td7 : (upd H6 td (.lst xs')) td = some (.lst xs') := upd_same
      revert g7 m7 pl7 td7
      generalize upd H6 td (.lst xs') = H7
      intro g7 m7 pl7 td7
      have hb7 := (offS_some (g7.s _ _ hb)).2
      refine ⟨b, _, rfl, SqT.of hb7, rfl, ?_⟩
      refine ⟨_, _, rfl, _, _, rfl, rfl, ?_⟩
      obtain ⟨pa, vs, rfl, hpa, hsf⟩ := hsv
      have hvl := hsf.len
      -- a queue's path
      refine ⟨fun σ' H' => σ' = [some fv, some (.ref pl), some (.ref td), some (.int (0 + (m : Nat))), some (.ref pa), some (.ref cq), o6, o7] ∧ GoS [pl, td] H7 H' ∧ Same H H' ∧ H' td = some (.lst xs') ∧ ∃ ps', H' pl = some (.lst ps') ∧ Paired (fun v p => ∃ b, v = V.ref b ∧ SqT K (offS [pl, td] H7) b (intsN p)) ps' ((done ++ [q0]).filter (isLf T)), ?_, ?_⟩
      · refine ⟨_, rfl, pa, vs, rfl, .inr (same_sqt m7 hpa), rfl, _, rfl, ?_⟩
        rw [hvl]
        have hPs7 : Paired (fun v p => ∃ b, v = V.ref b ∧ SqT K (offS [pl, td] H7) b (intsN p)) ps (done.filter (isLf T)) := Paired.weak (fun v p z => by
          obtain ⟨b, z1, z2⟩ := z
          exact ⟨b, z1, same_sqt g7.s z2⟩) hPs
        by_cases hz : u.len = 0
        · have hlf : isLf T q0 = true := by rw [isLf_o hu0, hz]; rfl
          rw [show decide (V.int (u.len : Nat) = V.int 0) = true from decide_eq_true (by rw [hz]; rfl)]
          refine iteT ⟨_, rfl, .inl ⟨rfl, _, SqL.of pl7⟩, _, rfl, pl, _, _, rfl, rfl, pl7, small1000 (by omega), ?_⟩
          refine ⟨rfl, GoS.refl.upd mpl, same_mut m7 f1, by rw [upd_ne npt.symm]; exact td7, ps ++ [.ref cq], upd_same, ?_⟩
          rw [List.filter_append, List.filter_cons_of_pos hlf]
          exact Paired.app3 hPs7 (.cons ⟨cq, rfl, same_sqt g7.s hcq⟩ .nil)
        · have hlf : isLf T q0 = false := by rw [isLf_o hu0]; exact beq_false_of_ne hz
          rw [show decide (V.int (u.len : Nat) = V.int 0) = false from decide_eq_false fun z => hz (by injection z with z; omega)]
          refine iteF ⟨rfl, GoS.refl, m7, td7, ps, pl7, ?_⟩
          rw [List.filter_append, List.filter_cons_of_neg (by rw [hlf]; decide), List.filter_nil, List.append_nil]
          exact hPs7
      rintro σ' H8 ⟨rfl, g8, m8, td8, ps', pl8, hPs8⟩
      refine ⟨_, rfl, pa, vs, rfl, .inr (same_sqt m8 hpa), _, _, rfl, rfl, ?_⟩
      rw [hvl]
      refine ⟨_, rfl, .inl ⟨rfl, _, SqL.of td8⟩, ?_⟩
      refine ⟨_, rfl, pa, vs, rfl, .inr (same_sqt m8 hpa), ?_⟩
      rw [hvl]
      have hcq8 : SqT K H8 cq (intsN q0) := same_sqt offS_same (same_sqt (g7.trans g8).s hcq)
      refine ⟨_, rfl, by omega, by omega, fun Dl hDl => lc_range (lo := 0) (n := u.len) (fun k H' => Same H8 H' ∧ ∃ zs, H' Dl = some (.lst zs) ∧ Paired (fun v q => ∃ u b c fv, sub T q = some u ∧ v = V.ref b ∧ H' b = some (.tup [fv, .ref c]) ∧ H' c = some (.tup (intsN q)) ∧ b ≠ Dl ∧ c ≠ Dl ∧ H8 b = none ∧ H8 c = none ∧ ShV K H fv u) zs ((List.range k).map fun k => q0 ++ [u.len - 1 - k])) ⟨same_new hDl, [], upd_same, .nil⟩ ?_ ?_⟩
      · rintro k H' hk ⟨sm, zs, hD, hZ⟩
        have hzl := Paired.lenE hZ
        rw [List.length_map, List.length_range] at hzl
        have hj : u.len - 1 - k < vs.length := by rw [hvl]; omega
        have hvj : vs[u.len - 1 - k]? = some vs[u.len - 1 - k] := List.getElem?_eq_getElem hj
        obtain ⟨kd', hkd1, hkd2⟩ := hsf.at _ _ hvj
        have hsk : sub T (q0 ++ [u.len - 1 - k]) = some kd' := by
          rw [(sub_app T q0 u hu0 [u.len - 1 - k]).1, sub_one, hkd1]
        have eidx : ((u.len : Nat) : Int) - 1 - (0 + (k : Nat)) = ((u.len - 1 - k : Nat) : Int) := by omega
        refine ⟨rfl, ?_⟩
        refine ⟨_, rfl, _, rfl, _, rfl, _, _, rfl, rfl, pa, vs, _, vs[u.len - 1 - k], rfl, rfl, same_sqt (m8.trans sm) hpa, (by rw [eidx]; exact atI_nat hvj), ?_⟩
        refine eu_cat (K := K) (xs := intsN q0) (ys := [.int (((u.len : Nat) : Int) - 1 - (0 + (k : Nat)))]) (ev_var rfl) (same_sqt sm hcq8) (eu_tup (ea_cons (ev_op (ev_var rfl) (ev_var rfl) rv_I0) ea_nil) (by show 1 ≤ 100000; decide)) (by simp) (by rw [intsN_len]; show _ + 1 ≤ _; omega) H' (Ex.refl H') _ fun c H9 hc e9 h9 => ?_
        refine ⟨(by show 2 ≤ sizeLine; decide), fun b3 hb3 => ?_⟩
        have hc9 : H9 c = some (.tup (intsN (q0 ++ [u.len - 1 - k]))) := by
          rw [h9, eidx]
          unfold intsN
          rw [List.map_append]
          rfl
        have hD9 : H9 Dl = some (.lst zs) := e9 _ _ hD
        have nc : c ≠ Dl := fun z => by rw [z, hD9] at h9; exact nomatch h9
        have nb3 : b3 ≠ Dl := fun z => by rw [z, hD9] at hb3; exact nomatch hb3
        have nb3c : c ≠ b3 := fun z => by rw [← z, h9] at hb3; exact nomatch hb3
        have s9 : Same H8 H9 := sm.trans e9
        refine ⟨zs, same_new hb3 _ _ hD9, small1000 (by omega), same_mut (s9.trans (same_new hb3)) hDl, zs ++ [.ref b3], upd_same, ?_⟩
        rw [List.range_succ, List.map_append]
        refine Paired.app3 (Paired.weak (fun v p z => ?_) hZ) (.cons ⟨kd', b3, c, _, hsk, rfl, ?_, ?_, nb3, nc, s9.free hb3, sm.free hc, hkd2⟩ .nil)
        · obtain ⟨u1, b4, c4, fv4, z1, z2, z3, z4, z5, z6, z7, z8, z9⟩ := z
          refine ⟨u1, b4, c4, fv4, z1, z2, ?_, ?_, z5, z6, z7, z8, z9⟩
          · rw [upd_ne z5]
            exact same_new hb3 _ _ (e9 _ _ z3)
          · rw [upd_ne z6]
            exact same_new hb3 _ _ (e9 _ _ z4)
        · rw [upd_ne nb3]
          exact upd_same
        · rw [upd_ne nc]
          exact same_new hb3 _ _ hc9
      · rintro H12 ⟨s12, zs, hD, hZ⟩
        have hzl := Paired.lenE hZ
        rw [List.length_map, List.length_range] at hzl
        have td12 := s12 _ _ td8
        refine ⟨td, Dl, xs', zs, rfl, rfl, td12, hD, by omega, ?_⟩
        have g13 : GoS [pl, td] H8 (upd H12 td (.lst (xs' ++ zs))) := (GoS.of s12).upd mtd
        have m13 : Same H (upd H12 td (.lst (xs' ++ zs))) := same_mut (m8.trans s12) f2
        have pl13 : (upd H12 td (.lst (xs' ++ zs))) pl = some (.lst ps') := by rw [upd_ne npt]; exact s12 _ _ pl8
        have td13 : (upd H12 td (.lst (xs' ++ zs))) td = some (.lst (xs' ++ zs)) := upd_same
        have zS : ∀ b, H8 b = none → b ∉ [pl, td] := fun b hb z => by
          simp only [List.mem_cons, List.not_mem_nil, or_false] at z
          rcases z with z | z
          · rw [z, pl8] at hb; exact nomatch hb
          · rw [z, td8] at hb; exact nomatch hb
        have hZ13 : Paired (fun v q => ∃ u b c fv, sub T q = some u ∧ v = V.ref b ∧ offS [pl, td] (upd H12 td (.lst (xs' ++ zs))) b = some (.tup [fv, .ref c]) ∧ SqT K (offS [pl, td] (upd H12 td (.lst (xs' ++ zs)))) c (intsN q) ∧ ShV K H fv u) zs ((kidsA q0 u.len).reverse) := by
          rw [kids_rev]
          refine Paired.weak (fun v p z => ?_) hZ
          obtain ⟨u1, b4, c4, fv4, z1, z2, z3, z4, z5, z6, z7, z8, z9⟩ := z
          have n1 := zS b4 z7
          have n2 := zS c4 z8
          refine ⟨u1, b4, c4, fv4, z1, z2, ?_, SqT.of ?_, z9⟩
          · rw [offS_ne n1, upd_ne (fun z => n1 (by rw [z]; exact mtd))]
            exact z3
          · rw [offS_ne n2, upd_ne (fun z => n2 (by rw [z]; exact mtd))]
            exact z4
        revert g13 m13 pl13 td13 hZ13
        generalize upd H12 td (.lst (xs' ++ zs)) = H13
        intro g13 m13 pl13 td13 hZ13
        have g713 := (g7.trans (g8.trans g13)).s
        have g813 := (g8.trans g13).s
        refine ⟨_, _, _, _, _, done ++ [q0], kidsA q0 u.len ++ r, rfl, ⟨m13, by rw [hsp, List.append_assoc]; rfl, fun p hp => ?_, ⟨ps', pl13, Paired.weak (fun v p z => ?_) hPs8⟩, ⟨_, td13, ?_⟩⟩, .inr (by rw [List.length_append, hdm]; rfl)⟩
        · rcases List.mem_append.mp hp with hp | hp
          · obtain ⟨j, hj, rfl⟩ := List.mem_map.mp hp
            obtain ⟨k', hk'⟩ := kid_of (List.mem_range.mp hj)
            exact ⟨k', by rw [(sub_app T q0 u hu0 [j]).1, sub_one, hk']⟩
          · exact I.ok p (List.mem_cons_of_mem _ hp)
        · obtain ⟨b, z1, z2⟩ := z
          exact ⟨b, z1, same_sqt g813 z2⟩
        · rw [List.reverse_append]
          refine Paired.app3 (Paired.weak (fun v p z => ?_) hP') hZ13
          obtain ⟨u1, b4, c4, fv4, z1, z2, z3, z4, z5⟩ := z
          exact ⟨u1, b4, c4, fv4, z1, z2, g713 _ _ z3, same_sqt g713 z4, z5⟩
    · have hx0 : pend = [] := by
        have : ¬ (0 : Int) < (xs.length : Nat) := fun z => hc (decide_eq_true z)
        exact List.eq_nil_of_length_eq_zero (by omega)
      exact ⟨_, _, _, _, _, done, pend, rfl, I, .inl hx0⟩
  · rintro σ H6 ⟨o3, o4, o5, o6, o7, done, pend, rfl, I, hmd⟩
    have hpe : pend = [] := by
      rcases hmd with h | h
      · exact h
      · have := congrArg List.length I.sp
        rw [List.length_append, ad_len] at this
        omega
    subst hpe
    have hda : done = ad T := by
      have := I.sp
      rw [show pblk T [] = [] from rfl, List.append_nil] at this
      exact this.symm
    subst hda
    obtain ⟨ps, j1, j2⟩ := I.pp
    exact ⟨_, rfl, q _ pl I.sm hpl ⟨ps, j1, Paired.weak (fun v p z => by
      obtain ⟨b, z1, z2⟩ := z
      exact ⟨b, z1, same_sqt offS_same z2⟩) j2⟩⟩
end
end K27
set_option Elab.async false
set_option linter.all false
set_option maxRecDepth 100000
set_option maxHeartbeats 8000000
namespace K27
open PySem PySem.Spec PyProof.Rows L2 Evl
open Dt (sub sub_nil sub_app sub_one sub_pre lcp lv ad sub_ad isLf isLf_o idx_lt ad_len)
/-! ### _law_triples -/
theorem leaf_ex : ∀ (d : Nat) (u : Dt), u.size ≤ d → ∃ p w, sub u p = some w ∧ w.len = 0 := by
  intro d
  induction d with
  | zero =>
    intro u h
    refine ⟨[], u, sub_nil u, ?_⟩
    cases e : u.len with
    | zero => rfl
    | succ n =>
      obtain ⟨k, hk⟩ := kid_of (u := u) (j := 0) (by omega)
      have := kid_sz hk
      omega
  | succ d ih =>
    intro u h
    by_cases c : u.len = 0
    · exact ⟨[], u, sub_nil u, c⟩
    · obtain ⟨k, hk⟩ := kid_of (u := u) (j := 0) (by omega)
      have := kid_sz hk
      obtain ⟨p, w, h1, h2⟩ := ih k (by omega)
      exact ⟨0 :: p, w, by rw [sub_kid hk]; exact h1, h2⟩
theorem lf_lv {T w : Dt} {p : Ad} (h1 : sub T p = some w) (h2 : w.len = 0) : p ∈ lv T := by
  refine List.mem_filter.mpr ⟨sub_ad h1, ?_⟩
  rw [isLf_o h1, h2]
  rfl
theorem lf_pos (T : Dt) : 0 < T.lf := by
  obtain ⟨p, w, h1, h2⟩ := leaf_ex _ T (Nat.le_refl _)
  exact List.length_pos_of_mem (lf_lv h1 h2)
structure CtxF (K : PySem.W.Frag) (S : List Addr) (H : Hp) (fv : V) (pl : Addr) (T : Dt) : Prop where
  p : PathsT K (offS S H) pl T
  v : DtV K (offS S H) fv T
  g : T.good 1 = true
  h : T.ht ≤ 11
  n : T.nodes ≤ 20
  z : T.size ≤ 100000
theorem CtxF.keep {K : PySem.W.Frag} {S : List Addr} {H H' : Hp} {fv : V} {pl : Addr} {T : Dt} (c : CtxF K S H fv pl T) (g : GoS S H H') : CtxF K S H' fv pl T := ⟨c.p.same g.s, same_dtv g.s c.v, c.g, c.h, c.n, c.z⟩
theorem CtxF.paths {K : PySem.W.Frag} {S : List Addr} {H : Hp} {fv : V} {pl : Addr} {T : Dt} (c : CtxF K S H fv pl T) : PathsT K H pl T := c.p.same offS_same
theorem CtxF.form {K : PySem.W.Frag} {S : List Addr} {H : Hp} {fv : V} {pl : Addr} {T : Dt} (c : CtxF K S H fv pl T) : DtV K H fv T := same_dtv offS_same c.v
theorem CtxF.rn {K : PySem.W.Frag} {H H' : Hp} {tp ca : Addr} {fv : V} {pl : Addr} {T : Dt} (c : CtxF K [tp] H fv pl T) (r : Rn K tp ca H H') : CtxF K [tp] H' fv pl T := c.keep r.gos
theorem CtxF.lf {K : PySem.W.Frag} {S : List Addr} {H : Hp} {fv : V} {pl : Addr} {T : Dt} (c : CtxF K S H fv pl T) : T.lf ≤ 20 ∧ 0 < T.lf := ⟨Nat.le_trans (lf_le T) c.n, lf_pos T⟩
theorem lv_get {T : Dt} {i : Nat} (h : i < T.lf) : ∃ p, (lv T)[i]? = some p := ⟨_, List.getElem?_eq_getElem (show i < (lv T).length from h)⟩
theorem below_lt {n i : Nat} (h : i < n) : belowB (n : Nat) (some ((i : Nat) : Int)) = true := by
  show (decide ((0 : Int) ≤ (i : Nat)) && decide (((i : Nat) : Int) < (n : Nat))) = true
  rw [decide_eq_true (by omega), decide_eq_true (by omega)]
  rfl
def spTriples (K : PySem.W.Frag) : Sp := fun vs H Q _ => ∃ (tp ca pl : Addr) (fv : V) (T : Dt), vs = [.ref tp, fv, .ref pl] ∧ Tape K H tp ca ∧ CtxF K [tp] H fv pl T ∧ ∀ H', Rn K tp ca H H' → Q (.bl true) H'
/-- rows of three numbers of queues -/
def Rows3 (H : Hp) (rw : Addr) (n : Nat) (xs : List V) : Prop := H rw = some (.lst xs) ∧ ∀ x ∈ xs, ∃ (b : Addr) (i j k : Nat), x = .ref b ∧ H b = some (.tup [.int (i : Nat), .int (j : Nat), .int (k : Nat)]) ∧ i < n ∧ j < n ∧ k < n
theorem Rows3.same {H H' : Hp} {rw : Addr} {n : Nat} {xs : List V} (h : Rows3 H rw n xs) (e : Same H H') : Rows3 H' rw n xs := ⟨e _ _ h.1, fun x hx => by
  obtain ⟨b, i, j, k, h1, h2, h3⟩ := h.2 x hx
  exact ⟨b, i, j, k, h1, e _ _ h2, h3⟩⟩
theorem Rows3.rn {K : PySem.W.Frag} {tp ca : Addr} {H H' : Hp} {rw : Addr} {n : Nat} {xs : List V} (h : Rows3 H rw n xs) (e : Rn K tp ca H H') (ne : rw ≠ tp) : Rows3 H' rw n xs := ⟨e.at h.1 ne, fun x hx => by
  obtain ⟨b, i, j, k, h1, h2, h3⟩ := h.2 x hx
  refine ⟨b, i, j, k, h1, e.at h2 fun z => ?_, h3⟩
  obtain ⟨_, _, _, _, _, t, _⟩ := e.a
  rw [← z, h2] at t
  exact nomatch t⟩
theorem Rows3.app {H : Hp} {rw b : Addr} {n : Nat} {xs : List V} {i j k : Nat} (h : Rows3 H rw n xs) (hb : H b = some (.tup [.int (i : Nat), .int (j : Nat), .int (k : Nat)])) (hi : i < n) (hj : j < n) (hk : k < n) : Rows3 (upd H rw (.lst (xs ++ [.ref b]))) rw n (xs ++ [.ref b]) := by
  have go : ∀ c i j k, H c = some (.tup [.int ((i : Nat) : Int), .int ((j : Nat) : Int), .int ((k : Nat) : Int)]) → (upd H rw (.lst (xs ++ [.ref b]))) c = some (.tup [.int (i : Nat), .int (j : Nat), .int (k : Nat)]) := fun c i j k hc => by
    rw [upd_ne (fun z => by rw [z, h.1] at hc; exact nomatch hc)]
    exact hc
  refine ⟨upd_same, fun x hx => ?_⟩
  rcases List.mem_append.mp hx with hx | hx
  · obtain ⟨c, i, j, k, h1, h2, h3⟩ := h.2 x hx
    exact ⟨c, i, j, k, h1, go _ _ _ _ h2, h3⟩
  · exact ⟨b, i, j, k, List.mem_singleton.mp hx, go _ _ _ _ hb, hi, hj, hk⟩
theorem tri_nums (n k : Nat) (h1 : 1 ≤ n) (h4 : n ≤ 4) (hk : k < n * n * n) : ∃ a b c : Nat, a < n ∧ b < n ∧ c < n ∧ ((k : Nat) : Int) / ((n : Nat) * (n : Nat)) = (a : Nat) ∧ ((k : Nat) : Int) / (n : Nat) - (n : Nat) * (((k : Nat) : Int) / ((n : Nat) * (n : Nat))) = (b : Nat) ∧ ((k : Nat) : Int) - (n : Nat) * (((k : Nat) : Int) / (n : Nat)) = (c : Nat) := by
  have hn : n = 1 ∨ n = 2 ∨ n = 3 ∨ n = 4 := by omega
  rcases hn with rfl | rfl | rfl | rfl
  · exact ⟨k / 1, k / 1 - 1 * (k / 1), k - 1 * (k / 1), by omega, by omega, by omega, by omega, by omega, by omega⟩
  · exact ⟨k / 4, k / 2 - 2 * (k / 4), k - 2 * (k / 2), by omega, by omega, by omega, by omega, by omega, by omega⟩
  · exact ⟨k / 9, k / 3 - 3 * (k / 9), k - 3 * (k / 3), by omega, by omega, by omega, by omega, by omega, by omega⟩
  · exact ⟨k / 16, k / 4 - 4 * (k / 16), k - 4 * (k / 4), by omega, by omega, by omega, by omega, by omega, by omega⟩
section
variable {P : Program} {w : World} {K : PySem.W.Frag} {mg : Str → Option Value} {base : Heap} {C U fG : Addr}
theorem ok_triples (D : DefAt K mg "_law_triples" s_law_triples ["tape", "form", "paths"]) (T0 : Txt K mg) (GDraw : CalX P w K mg base CX0 1 "_law_draw" ["tape", "many"] (spDraw K)) (GIs : CalX P w K mg base CX0 1 "_law_is" ["told", "due"] spIs) (GDue : CalX P w K mg base CX0 2 "_law_due" ["paths", "queue", "one", "other"] (spDue K)) (GAsk : CalX P w K mg base CX0 25 "_law_ask" ["named", "form", "queue", "one", "other"] (spAsk K C U)) :
    CalX P w K mg base CX0 26 "_law_triples" ["tape", "form", "paths"] (spTriples K) := by
  refine D.ok sc_law_triples (fun vs H Q E h => ?_) (fun f cdv A outer s H vs Q E hr h => ?_)
  · obtain ⟨tp, ca, pl, fv, T, rfl, _⟩ := h
    rfl
  obtain ⟨tp, ca, pl, fv, T, rfl, hT, cx, q⟩ := h
  refine ⟨_, (pss_cons (ps_set (i := 3) sc_law_triples.nd rfl (.inl rfl) (pe_callB call_len_seq (by rfl) T0.len PySem.boot_len (pa_cons (pv 2) pa_nil))) 
    (pss_cons (ps_set (i := 4) sc_law_triples.nd rfl (.inl rfl) (pe_lst pa_nil)) 
    (pss_cut (ps_if (pt_cmpR op_le (pv 3) pe_int (nomark _)) 
      (pss_one (ps_for PassesOwn.never rfl (pi_range1 (by rfl) T0.range (pa_cons (pe_op op_mul (pe_op op_mul (pv 3) (pv 3)) (pv 3)) pa_nil)) (pg_name (i := 5) sc_law_triples.nd rfl (Or.inl rfl)) 
        (pss_one (ps_expr (pe_bm PySem.F.plainAttrs_list PySem.F.slot_list_append PySem.F.type_list_append mt_append (pv 4) (pa_cons (pe_tup (pa_cons (pe_op op_fdiv (pv 5) (pe_op op_mul (pv 3) (pv 3))) (pa_cons (pe_op op_sub (pe_op op_fdiv (pv 5) (pv 3)) (pe_op op_mul (pv 3) (pe_op op_fdiv (pv 5) (pe_op op_mul (pv 3) (pv 3))))) (pa_cons (pe_op op_sub (pv 5) (pe_op op_mul (pv 3) (pe_op op_fdiv (pv 5) (pv 3)))) pa_nil)))) pa_nil)))))) 
      (pss_one (ps_for PassesOwn.never rfl (pi_range1 (by rfl) T0.range (pa_cons pe_int pa_nil)) (pg_name (i := 5) sc_law_triples.nd rfl (Or.inl rfl)) 
        (pss_one (ps_expr (pe_bm PySem.F.plainAttrs_list PySem.F.slot_list_append PySem.F.type_list_append mt_append (pv 4) (pa_cons (pe_tup (pa_cons (pe_c0 GDraw hr (by decide) rfl (pa_cons (pv 0) (pa_cons (pv 3) pa_nil))) (pa_cons (pe_c0 GDraw hr (by decide) rfl (pa_cons (pv 0) (pa_cons (pv 3) pa_nil))) (pa_cons (pe_c0 GDraw hr (by decide) rfl (pa_cons (pv 0) (pa_cons (pv 3) pa_nil))) pa_nil)))) pa_nil))))))) 
    (pss_cons (ps_for PassesOwn.never rfl (pi_list (pv 4)) (pg_tup (by rfl) (pgs_cons (pg_name (i := 6) sc_law_triples.nd rfl (Or.inl rfl)) (pgs_cons (pg_name (i := 7) sc_law_triples.nd rfl (Or.inl rfl)) (pgs_cons (pg_name (i := 8) sc_law_triples.nd rfl (Or.inl rfl)) pgs_nil)))) 
      (pss_one (ps_if (pt_not (pt_val (pe_c0 GIs hr (by decide) rfl (pa_cons (pe_c0 GAsk hr (by decide) rfl (pa_cons (pe_cmpR op_gt (pv 7) (pv 8) (nomark _)) (pa_cons (pv 1) (pa_cons (pv 6) (pa_cons (pv 7) (pa_cons (pv 8) pa_nil)))))) (pa_cons (pe_c0 GDue hr (by decide) rfl (pa_cons (pv 2) (pa_cons (pv 6) (pa_cons (pv 7) (pa_cons (pv 8) pa_nil))))) pa_nil))))) 
        (pss_one (ps_ret pe_bl)) pss_nil))) 
    (pss_one (ps_ret pe_bl)))))), ?_⟩
  obtain ⟨ps, hps, hpn, hat⟩ := cx.paths.at
  obtain ⟨l1, l2⟩ := cx.lf
  refine ⟨_, rfl, pl, ps, rfl, .inl (SqL.of hps), (by show 0 ≤ sizeLine; decide), fun rw hrw => ?_⟩
  have nrt := hT.new hrw
  have R0 : Rn K tp ca H (upd H rw (.lst [])) := Rn.of hT (same_new hrw)
  have hr0 : (upd H rw (.lst [])) rw = some (.lst []) := upd_same
  revert R0 hr0
  generalize upd H rw (.lst []) = H1
  intro R0 hr0
  rw [hpn]
  refine ⟨fun σ H' => ∃ o5 o6 o7 o8 xs, σ = [some (.ref tp), some fv, some (.ref pl), some (.int (T.lf : Nat)), some (.ref rw), o5, o6, o7, o8] ∧ Rn K tp ca H H' ∧ Rows3 H' rw T.lf xs, ?_, ?_⟩
  · refine ⟨_, rfl, _, _, rfl, rfl, _, rfl, ite2 (fun hc => ?_) fun hc => ?_⟩
    · have h4 : T.lf ≤ 4 := by
        have := of_decide_eq_true hc
        omega
      refine ⟨_, rfl, _, rfl, _, _, rfl, rfl, .inl (by omega), _, rfl, _, _, rfl, rfl, ?_⟩
      have ecast : ((T.lf : Nat) : Int) * (T.lf : Nat) * (T.lf : Nat) = ((T.lf * T.lf * T.lf : Nat) : Int) := by rw [Int.natCast_mul, Int.natCast_mul]
      have hle : T.lf * T.lf * T.lf ≤ 64 := Nat.mul_le_mul (Nat.mul_le_mul h4 h4) h4
      have hle2 : T.lf * T.lf ≤ 16 := Nat.mul_le_mul h4 h4
      have hge2 : 1 ≤ T.lf * T.lf := Nat.mul_le_mul l2 l2
      have ecast2 : ((T.lf : Nat) : Int) * (T.lf : Nat) = ((T.lf * T.lf : Nat) : Int) := by rw [Int.natCast_mul]
      refine ⟨.inl (by rw [ecast2]; omega), ?_⟩
      refine ⟨((T.lf * T.lf * T.lf : Nat) : Int), congrArg (fun z : Int => [V.int z]) ecast, by omega, by omega, for_range (lo := 0) (n := T.lf * T.lf * T.lf) (fun m σ H' => ∃ o5 o6 o7 o8 xs, σ = [some (.ref tp), some fv, some (.ref pl), some (.int (T.lf : Nat)), some (.ref rw), o5, o6, o7, o8] ∧ Rn K tp ca H H' ∧ Rows3 H' rw T.lf xs ∧ xs.length = m) ⟨_, _, _, _, [], rfl, R0, ⟨hr0, fun x hx => nomatch hx⟩, rfl⟩ ?_ ?_⟩
      · rintro m σ H' hm ⟨o5, o6, o7, o8, xs, rfl, R, h3, hl⟩
        rw [show (0 + (m : Int)) = ((m : Nat) : Int) from Int.zero_add _]
        obtain ⟨a1, b1, c1, ha, hb, hc1, e1, e2, e3⟩ := tri_nums T.lf m l2 h4 hm
        refine ⟨_, rfl, .inl ⟨rfl, _, SqL.of h3.1⟩, ?_⟩
        refine ⟨_, rfl, _, rfl, _, rfl, _, _, rfl, rfl, .inl (by omega), _, _, rfl, rfl, ⟨by rw [ecast2]; omega, by rw [ecast2]; omega⟩, ?_⟩
        refine ⟨_, rfl, _, rfl, _, _, rfl, rfl, ⟨by omega, by omega⟩, ?_⟩
        refine ⟨_, rfl, _, rfl, _, rfl, _, rfl, _, _, rfl, rfl, .inl (by omega), _, _, rfl, rfl, ⟨by rw [ecast2]; omega, by rw [ecast2]; omega⟩, _, _, rfl, rfl, .inl (by omega), _, _, rfl, rfl, ?_⟩
        refine ⟨_, rfl, _, rfl, _, rfl, _, rfl, _, _, rfl, rfl, ⟨by omega, by omega⟩, _, _, rfl, rfl, .inl (by omega), _, _, rfl, rfl, ?_⟩
        refine ⟨(by show 3 ≤ sizeLine; decide), fun b hb0 => ?_⟩
        have h3' := h3.same (same_new (o := .tup [.int (((m : Nat) : Int) / ((T.lf : Nat) * (T.lf : Nat))), .int (((m : Nat) : Int) / (T.lf : Nat) - (T.lf : Nat) * (((m : Nat) : Int) / ((T.lf : Nat) * (T.lf : Nat)))), .int (((m : Nat) : Int) - (T.lf : Nat) * (((m : Nat) : Int) / (T.lf : Nat)))]) hb0)
        refine ⟨rw, xs, _, rfl, rfl, h3'.1, small1000 (by omega), ?_⟩
        exact ⟨_, _, _, _, _, rfl, (R.same (same_new hb0)).mut hrw, h3'.app (by rw [upd_same, e2, e1, e3]) ha hb hc1, by rw [List.length_append, hl]; rfl⟩
      · rintro σ H' ⟨o5, o6, o7, o8, xs, rfl, R, h3, hl⟩
        exact ⟨_, _, _, _, xs, rfl, R, h3⟩
    · refine ⟨_, rfl, by decide, by decide, for_range (lo := 0) (n := 70) (fun m σ H' => ∃ o5 o6 o7 o8 xs, σ = [some (.ref tp), some fv, some (.ref pl), some (.int (T.lf : Nat)), some (.ref rw), o5, o6, o7, o8] ∧ Rn K tp ca H H' ∧ Rows3 H' rw T.lf xs ∧ xs.length = m) ⟨_, _, _, _, [], rfl, R0, ⟨hr0, fun x hx => nomatch hx⟩, rfl⟩ ?_ ?_⟩
      · rintro m σ H' hm ⟨o5, o6, o7, o8, xs, rfl, R, h3, hl⟩
        refine ⟨_, rfl, .inl ⟨rfl, _, SqL.of h3.1⟩, ?_⟩
        refine ⟨_, rfl, _, rfl, tp, ca, T.lf, rfl, R.b, by omega, by omega, fun H2 i hi R2 => ?_⟩
        refine ⟨_, rfl, _, rfl, tp, ca, T.lf, rfl, R2.b, by omega, by omega, fun H3 j hj R3 => ?_⟩
        refine ⟨_, rfl, _, rfl, tp, ca, T.lf, rfl, R3.b, by omega, by omega, fun H4 k hk R4 => ?_⟩
        refine ⟨(by show 3 ≤ sizeLine; decide), fun b hb0 => ?_⟩
        have R24 := R2.trans (R3.trans R4)
        have h3' := (h3.rn R24 nrt).same (same_new (o := .tup [.int (i : Nat), .int (j : Nat), .int (k : Nat)]) hb0)
        refine ⟨rw, xs, _, rfl, rfl, h3'.1, small1000 (by omega), ?_⟩
        exact ⟨_, _, _, _, _, rfl, ((R.trans R24).same (same_new hb0)).mut hrw, h3'.app upd_same hi hj hk, by rw [List.length_append, hl]; rfl⟩
      · rintro σ H' ⟨o5, o6, o7, o8, xs, rfl, R, h3, hl⟩
        exact ⟨_, _, _, _, xs, rfl, R, h3⟩
  · rintro σ H' ⟨o5, o6, o7, o8, xs, rfl, R, h3⟩
    refine ⟨_, rfl, rw, rfl, ⟨_, SqL.of h3.1⟩, for_list (K := K) (a := rw) (xs := xs) (fun m σ H' => ∃ o5 o6 o7 o8, σ = [some (.ref tp), some fv, some (.ref pl), some (.int (T.lf : Nat)), some (.ref rw), o5, o6, o7, o8] ∧ Rn K tp ca H H' ∧ Rows3 H' rw T.lf xs) ⟨_, _, _, _, rfl, R, h3⟩ (fun k σ H' _ hh => ?_) ?_ ?_⟩
    · obtain ⟨_, _, _, _, _, _, h⟩ := hh
      exact SqL.of h.1
    · rintro m x σ H' hx ⟨o5, o6, o7, o8, rfl, R, h3⟩
      obtain ⟨b, i, j, k, rfl, hb, hi, hj, hk⟩ := h3.2 x (List.mem_of_getElem? hx)
      obtain ⟨p, hp⟩ := lv_get hi
      obtain ⟨q1, hq1⟩ := lv_get hj
      obtain ⟨q2, hq2⟩ := lv_get hk
      have cx' := cx.rn R
      refine ⟨b, _, rfl, SqT.of hb, rfl, _, _, rfl, _, _, rfl, _, _, rfl, rfl, ?_⟩
      refine ⟨_, rfl, _, rfl, _, _, rfl, rfl, _, rfl, _, rfl, _, rfl, _, rfl, ?_⟩
      refine ⟨_, fv, _, _, _, T, some (i : Nat), some (j : Nat), some (k : Nat), rfl, cx'.form, cx'.z, (fun _ => ⟨by have := cx.h; omega, by have := cx.n; omega⟩), rfl, rfl, rfl, (fun g => by rw [cx.g] at g; exact nomatch g), (fun _ g => by rw [below_lt hi] at g; exact nomatch g), (fun _ _ g => by rw [below_lt hj] at g; exact nomatch g), (fun _ _ _ g => by rw [below_lt hk] at g; exact nomatch g), fun _ i' j' k' p' q1' q2' e1 e2 e3 hp' hq1' hq2' H2 s2 => ?_⟩
      have e1 : i' = i := by injection e1 with e1; omega
      have e2 : j' = j := by injection e2 with e2; omega
      have e3 : k' = k := by injection e3 with e3; omega
      subst e1 e2 e3
      obtain rfl := lv_inj hp hp'
      obtain rfl := lv_inj hq1 hq1'
      obtain rfl := lv_inj hq2 hq2'
      refine ⟨_, rfl, _, rfl, _, rfl, _, rfl, pl, T, i', j', k', p, q1, q2, rfl, cx'.paths.same s2, by have := cx.h; omega, hp, hq1, hq2, ?_⟩
      refine ⟨_, rfl, _, rfl, iteF ?_⟩
      exact ⟨_, _, _, _, rfl, R.same s2, h3.same s2⟩
    · rintro σ H' ⟨o5, o6, o7, o8, rfl, R, h3⟩
      exact q H' R
end
end K27
set_option Elab.async false
set_option linter.all false
set_option maxRecDepth 100000
set_option maxHeartbeats 8000000
namespace K27
open PySem PySem.Spec PyProof.Rows L2 Dt
/-! ### the methods of a standing, called where they do not raise -/
theorem fn_quiet {P : Program} {w : World} {K : PySem.W.Frag} {mg : Str → Option Value} {base : Heap} {k : Nat} {f : Addr} {fd : FuncData} {ps : List Str} {sp sp' : Sp} (F : FnOk P w K mg base (L2.CX P w) k f fd ps sp) (h : ∀ vs H Q E, sp' vs H Q E → sp vs H Q (fun _ _ _ => False)) : FnOk P w K mg base CX0 k f fd ps sp' :=
  ⟨fun vs H Q E z => F.len vs H Q _ (h vs H Q E z), fun A outer s H args us vs Q E hr e b v z => codeAny_mono (F.run A outer s H args us vs Q _ hr e b v (h _ _ _ _ z)) fun r s' hq => by
    match r, hq with
    | .ok fl, hq =>
      cases fl with
      | ret u => exact hq
      | _ => exact hq.elim
    | .error e, hq =>
      obtain ⟨_, _, _, _, _, _, _, _, _, _, _, _, z⟩ := hq
      exact z⟩
theorem cal_quiet {P : Program} {w : World} {K : PySem.W.Frag} {mg : Str → Option Value} {base : Heap} {k : Nat} {x : Str} {ps : List Str} {sp sp' : Sp} (F : CalX P w K mg base (L2.CX P w) k x ps sp) (h : ∀ vs H Q E, sp' vs H Q E → sp vs H Q (fun _ _ _ => False)) : CalX P w K mg base CX0 k x ps sp' := by
  obtain ⟨f, fd, z1, z2⟩ := F.ex
  exact ⟨f, fd, fn_quiet z1 h, z2⟩
structure MQ (P : Program) (w : World) (K : PySem.W.Frag) (mg : Str → Option Value) (base : Heap) (C : Addr) (k : Nat) (m : Str) (ps : List Str) (sp : Sp) : Prop where
  ex : ∃ f fd, Meth K C m f ∧ FnOk P w K mg base CX0 k f fd ps sp ∧ L2.Binds K fd ps []
section
variable {X : Cx} {j k : Nat} {C : Addr} {ps : List Str} {sp : Sp} {m : Str} {pos apos : Pos} {o e : Expr} {es : List Expr} {ta : TE} {t : TA}
theorem pe_m1 {pl : Sem Bool} (he : PE X o ta) (c : Cls X.K C) (M : MQ X.prog X.w X.K X.mg X.base C k m ps sp) (hr : Room j X.A) (hk : k ≤ j) (ha : PA X (e :: es) t)
    (hst : starEach (e :: es) X.env = (false, eval e X.env) :: starEach es X.env := by rfl) (hpl : (backTo pos (starEach es X.env)).any (·.1) = false := by rfl)
    (ht : eval (.Call (.Attribute o m apos) (e :: es) [] pos) X.env = (do
      let ov ← eval o X.env
      standAt apos.atName
      let (f, first) ← holding [ov] (getMethod ov m pl)
      callWith pos f first (backTo pos (starEach (e :: es) X.env)) (backToKw pos (keywordEach [] X.env))) := by rfl) :
    PE X (.Call (.Attribute o m apos) (e :: es) [] pos) (tMeth C m sp [] E0 ta t) := by
  obtain ⟨f, fd, hm, F, b⟩ := M.ex
  exact pe_meth he c hm F (hr.mono hk) b .nil pass0 ha hst hpl ht
theorem pe_m0 {pl : Sem Bool} (he : PE X o ta) (c : Cls X.K C) (M : MQ X.prog X.w X.K X.mg X.base C k m ps sp) (hr : Room j X.A) (hk : k ≤ j)
    (ht : eval (.Call (.Attribute o m apos) [] [] pos) X.env = (do
      let ov ← eval o X.env
      standAt apos.atName
      let (f, first) ← holding [ov] (getMethod ov m pl)
      callWith pos f first (backTo pos (starEach [] X.env)) (backToKw pos (keywordEach [] X.env))) := by rfl) :
    PE X (.Call (.Attribute o m apos) [] [] pos) (tMeth C m sp [] E0 ta tNil) := by
  obtain ⟨f, fd, hm, F, b⟩ := M.ex
  exact pe_meth0 he c hm F (hr.mono hk) b .nil pass0 ht
end
def spPushQ (K : PySem.W.Frag) (C CS : Addr) : Sp := fun vs H Q _ => ∃ (a ta la sd : Addr) (S Ls : List Addr) (T : Dt) (L : Lns) (kv : List (Key × V)) (n : Int) (i : Nat) (p : Ad) (z : V) (rs : List (List Int)), vs = [.ref a, .int n, .int (i : Nat), z] ∧ StE K C CS S H a ta la sd Ls T L kv ∧ T.ht < 20 ∧ valV kv (Sum.inl n : Key) = none ∧ 0 ≤ n ∧ n < packB ∧ (lv T)[i]? = some p ∧ Dp K (offS S H) z (.tuple (rs.map intsD)) ∧ rs.length = p.length + 1 ∧ (∀ r ∈ rs, rankOf (intsD r) = true) ∧ (∀ q, (L q).length ≤ 100000) ∧ kv.length ≤ 100000 ∧
  ∀ H', GoS (sd :: Ls) H H' → StE K C CS S H' a ta la sd Ls T (pshL p rs n L) (putK kv (Sum.inl n : Key) (.int (i : Nat))) → Q .non H'
def spMadeQ (K : PySem.W.Frag) (C CS : Addr) : Sp := fun vs H Q _ => ∃ (a dx : Addr) (v : V) (t : Dt), vs = [.ref a, v] ∧ H a = some (.ins CS dx []) ∧ DtV K H v t ∧ t.size ≤ 100000 ∧ t.good 1 = true ∧ t.ht < 20 ∧ t.nodes ≤ 1000 ∧
  (∀ H' ta la sd Ls, StE K C CS (sd :: Ls) H' a ta la sd Ls t (fun _ => []) [] → TN K H (offS (sd :: Ls) H') C ta t ∧ H la = none → (∀ y o, H y = some o → y ≠ a → H' y = some o) → (∀ y ∈ sd :: Ls, H y = none) → Q .non H')
theorem stv_of {K : PySem.W.Frag} {C CS : Addr} {S : List Addr} {H : Hp} {a ta la sd : Addr} {Ls : List Addr} {T : Dt} {L : Lns} {kv : List (Key × V)} (s : StE K C CS S H a ta la sd Ls T L kv) : StV K CS H (.ref a) true := by
  obtain ⟨dx, h⟩ := s.obj
  exact .inl ⟨rfl, a, dx, _, rfl, h⟩
theorem below_idx {T u : Dt} {q : Ad} (h : sub T q = some u) : belowB (T.nodes : Nat) (some (T.idx q : Nat)) = true := by
  have h1 := idx_lt h
  have h2 := nodes_pos u
  show (decide ((0 : Int) ≤ (T.idx q : Nat)) && decide (((T.idx q : Nat) : Int) < (T.nodes : Nat))) = true
  rw [decide_eq_true (by omega), decide_eq_true (by omega)]
  rfl
theorem below_pack {n : Int} (h : 0 ≤ n) (g : n < packB) : belowB packB (some n) = true := by
  show (decide (0 ≤ n) && decide (n < packB)) = true
  rw [decide_eq_true h, decide_eq_true g]
  rfl
theorem idx_sub {T u u' : Dt} {q q' : Ad} (h : sub T q = some u) (h' : sub T q' = some u') (e : (some ((T.idx q : Nat) : Int)) = some ((T.idx q' : Nat) : Int)) : q' = q ∧ u' = u := by
  have e2 : T.idx q = T.idx q' := by
    injection e with e
    omega
  have := idx_inj (sub_ad h) (sub_ad h') e2
  subst this
  rw [h] at h'
  exact ⟨rfl, (Option.some.inj h').symm⟩
section
variable {P : Program} {w : World} {K : PySem.W.Frag} {mg : Str → Option Value} {base : Heap} {C CS U : Addr}
theorem fit_ok {rs : List (List Int)} {n : Nat} (h : rs.length = n) (g : ∀ r ∈ rs, rankOf (intsD r) = true) : fitOf n (.tuple (rs.map intsD)) = true := by
  unfold fitOf
  show (decide ((rs.map intsD).length = n) && (rs.map intsD).all rankOf) = true
  rw [decide_eq_true (by rw [List.length_map, h]), Bool.true_and, List.all_eq_true]
  intro x hx
  obtain ⟨r, hr, rfl⟩ := List.mem_map.mp hx
  exact g r hr
theorem ints_inj : ∀ {a b : List Int}, intsD a = intsD b → a = b := fun {a b} h => by
  have := congrArg rkInts h
  rwa [rkInts_ints, rkInts_ints] at this
theorem map_ints_inj : ∀ {a b : List (List Int)}, a.map intsD = b.map intsD → a = b
  | [], [], _ => rfl
  | [], _ :: _, h => nomatch h
  | _ :: _, [], h => nomatch h
  | z1 :: a, z2 :: b, h => by
    rw [List.map_cons, List.map_cons] at h
    injection h with h1 h2
    rw [ints_inj h1, map_ints_inj h2]
theorem pushQ {f : Addr} {fd : FuncData} (F : FnOk P w K mg base (L2.CX P w) 5 f fd ["self", "number", "queue", "ranks"] (spPush K C CS U)) : FnOk P w K mg base CX0 5 f fd ["self", "number", "queue", "ranks"] (spPushQ K C CS) := by
  refine fn_quiet F fun vs H Q E h => ?_
  obtain ⟨a, ta, la, sd, S, Ls, T, L, kv, n, i, p, z, rs, rfl, st, hht, hab, n0, n1, hp, hz, hl, hrk, hsz, hkv, q⟩ := h
  have hA : absentB kv (some n) = true := by
    unfold absentB
    rw [below_pack n0 n1]
    show (true && !(valV kv (Sum.inl n : Key)).isSome) = true
    rw [hab]
    rfl
  have hpl := ht_path (List.mem_of_getElem? hp)
  refine ⟨a, ta, la, sd, S, Ls, T, L, kv, _, _, _, _, _, _, rfl, st, hht, (show NumV K H _ (some _) from rfl), (show NumV K H _ (some _) from rfl), hz, (fun ds e => ?_), hsz, hkv, (fun y => ?_), (fun _ y => ?_), (fun _ i' p' e hp' y => ?_), fun _ n' i' p' rs' e e2 hp' e3 hl' hrk' H' g st' => ?_⟩
  · injection e with e
    rw [← e, List.length_map, hl]
    omega
  · rw [hA] at y
    exact nomatch y
  · have hi := (List.getElem?_eq_some_iff.mp hp).1
    rw [show (lv T).length = T.lf from rfl] at hi
    have y2 : (decide ((0 : Int) ≤ (i : Nat)) && decide (((i : Nat) : Int) < (T.lf : Nat))) = false := y
    rw [decide_eq_true (by omega), decide_eq_true (by omega)] at y2
    have y := y2
    exact nomatch y
  · have e2 : i' = i := by
      injection e with e
      omega
    subst e2
    rw [lv_inj hp' hp, fit_ok hl hrk] at y
    exact nomatch y
  · obtain rfl := Option.some.inj e
    have e4 : i' = i := by
      injection e2 with e2
      omega
    subst e4
    obtain rfl := lv_inj hp' hp
    injection e3 with e3
    obtain rfl := map_ints_inj e3
    exact q H' g st'
theorem madeQ {f : Addr} {fd : FuncData} (F : FnOk P w K mg base (L2.CX P w) 24 f fd ["self", "form"] (spMade K C CS U)) : FnOk P w K mg base CX0 24 f fd ["self", "form"] (spMadeQ K C CS) := by
  refine fn_quiet F fun vs H Q E h => ?_
  obtain ⟨a, dx, v, t, rfl, ha, hv, hs, g, h1, h2, q⟩ := h
  refine ⟨a, dx, v, t, rfl, ha, hv, hs, (fun g' => ?_), fun g' => ?_⟩
  · exact ⟨h1, h2, q⟩
  · rw [g] at g'
    exact nomatch g'
theorem twinQ {f : Addr} {fd : FuncData} (F : FnOk P w K mg base (L2.CX P w) 27 f fd ["self"] (spTwin K C CS)) : FnOk P w K mg base CX0 27 f fd ["self"] (spTwin K C CS) := fn_quiet F fun vs H Q E h => h
end
end K27
set_option Elab.async false
set_option linter.all false
set_option maxRecDepth 100000
set_option maxHeartbeats 8000000
namespace K27
open PySem PySem.Spec PyProof.Rows L2 Evl
open Dt (sub sub_nil sub_app sub_one sub_pre lcp lcp_le lcp_pre lv ad sub_ad isLf isLf_o idx_lt ad_len)
/-! ### what the law makes of a hop: mathematics -/
theorem g3_inj {i j : Nat} (h : g3 i = g3 j) : i = j := by
  unfold g3 at h
  omega
def nearB (pa : Nat → Ad) (c : Ad) (k : Nat) : Bool := decide (c <+: pa k)
theorem slot_out {pa : Nat → Ad} {c : Ad} {ms : List Int} (hm : ∀ k, (g3 k ∈ ms → c <+: pa k)) (l : Nat) : ∀ ks : List Nat, (∀ k ∈ ks, c <+: pa k → g3 k ∈ ms) → l ∉ ks → slotI ms (g3 l) (ks.map g3) = ks.map fun k => slH pa c (some k)
  | [], _, _ => rfl
  | k :: ks, hk, hl => by
    have ih := slot_out hm l ks (fun k' h => hk k' (List.mem_cons_of_mem _ h)) fun z => hl (List.mem_cons_of_mem _ z)
    have h1 : g3 k ≠ g3 l := fun z => hl (by rw [← g3_inj z]; exact List.mem_cons_self ..)
    have h2 : (if g3 k ∈ ms then none else some (g3 k) : Option Int) = slH pa c (some k) := by
      show _ = if c <+: pa k then none else some (g3 k)
      by_cases z : c <+: pa k
      · rw [if_pos z, if_pos (hk k (List.mem_cons_self ..) z)]
      · rw [if_neg z, if_neg fun y => z (hm k y)]
    show ((if g3 k ∈ ms then none else some (g3 k)) :: (if g3 k = g3 l then [none] else [])) ++ slotI ms (g3 l) (ks.map g3) = _
    rw [if_neg h1, h2, ih]
    rfl
theorem filt_gt (c : Nat) : ∀ ks : List Nat, (∀ y ∈ ks, c ≤ y) → ks.filter (fun y => decide (y < c)) = [] ∧ ks.filter (fun y => !decide (y < c)) = ks := fun ks h => by
  refine ⟨List.filter_eq_nil_iff.mpr fun y hy z => ?_, List.filter_eq_self.mpr fun y hy => ?_⟩
  · have := h y hy
    have := of_decide_eq_true z
    omega
  · have := h y hy
    rw [decide_eq_false (by omega)]
    rfl
theorem slot_in {pa : Nat → Ad} {c : Ad} {ms : List Int} (hm : ∀ k, (g3 k ∈ ms → c <+: pa k)) (l : Nat) : ∀ ks : List Nat, ks.Pairwise (· < ·) → (∀ k ∈ ks, c <+: pa k → g3 k ∈ ms) → l ∈ ks → slotI ms (g3 l) (ks.map g3) = ((ks.filter fun k => decide (k < l + 1)).map fun k => slH pa c (some k)) ++ none :: ((ks.filter fun k => !decide (k < l + 1)).map fun k => slH pa c (some k))
  | [], _, _, h => nomatch h
  | k :: ks, hp, hk, hl => by
    rw [List.pairwise_cons] at hp
    have h2 : (if g3 k ∈ ms then none else some (g3 k) : Option Int) = slH pa c (some k) := by
      show _ = if c <+: pa k then none else some (g3 k)
      by_cases z : c <+: pa k
      · rw [if_pos z, if_pos (hk k (List.mem_cons_self ..) z)]
      · rw [if_neg z, if_neg fun y => z (hm k y)]
    have e0 : slotI ms (g3 l) ((k :: ks).map g3) = ((if g3 k ∈ ms then none else some (g3 k)) :: (if g3 k = g3 l then [none] else [])) ++ slotI ms (g3 l) (ks.map g3) := rfl
    rw [e0, h2]
    by_cases e : k = l
    · subst e
      have hnot : k ∉ ks := fun z => Nat.lt_irrefl _ (hp.1 k z)
      obtain ⟨f1, f2⟩ := filt_gt (k + 1) ks fun y hy => hp.1 y hy
      rw [if_pos rfl, slot_out hm k ks (fun k' h => hk k' (List.mem_cons_of_mem _ h)) hnot, List.filter_cons_of_pos (by simp), List.filter_cons_of_neg (by simp), f1, f2]
      rfl
    · have hl2 := (List.mem_cons.mp hl).resolve_left (Ne.symm e)
      have hlt := hp.1 l hl2
      rw [if_neg fun z => e (g3_inj z), slot_in hm l ks hp.2 (fun k' h => hk k' (List.mem_cons_of_mem _ h)) hl2, List.filter_cons_of_pos (by simp; omega), List.filter_cons_of_neg (by simp; omega)]
      rfl
theorem row_out {ms : List Int} {z : Int} (e : Nat) : ∀ ks : List Nat, e ∉ ks → rowI ms (g3 e) z (ks.map g3) = (ks.filter fun k => decide (g3 k ∈ ms)).map g3
  | [], _ => rfl
  | k :: ks, hl => by
    have ih := row_out (ms := ms) (z := z) e ks fun z => hl (List.mem_cons_of_mem _ z)
    have h1 : g3 k ≠ g3 e := fun z => hl (by rw [← g3_inj z]; exact List.mem_cons_self ..)
    show ((if g3 k = g3 e then [z] else []) ++ (if g3 k ∈ ms then [g3 k] else [])) ++ rowI ms (g3 e) z (ks.map g3) = _
    rw [if_neg h1, ih]
    by_cases y : g3 k ∈ ms
    · rw [if_pos y, List.filter_cons_of_pos (by simpa using y)]
      rfl
    · rw [if_neg y, List.filter_cons_of_neg (by simpa using y)]
      rfl
theorem row_in {ms : List Int} {z : Int} (e : Nat) (he : g3 e ∈ ms) : ∀ ks : List Nat, ks.Pairwise (· < ·) → e ∈ ks → rowI ms (g3 e) z (ks.map g3) = (((ks.filter fun k => decide (g3 k ∈ ms)).filter fun k => decide (k < e)).map g3) ++ z :: (((ks.filter fun k => decide (g3 k ∈ ms)).filter fun k => !decide (k < e)).map g3)
  | [], _, h => nomatch h
  | k :: ks, hp, hl => by
    rw [List.pairwise_cons] at hp
    have e0 : rowI ms (g3 e) z ((k :: ks).map g3) = ((if g3 k = g3 e then [z] else []) ++ (if g3 k ∈ ms then [g3 k] else [])) ++ rowI ms (g3 e) z (ks.map g3) := rfl
    rw [e0]
    by_cases c : k = e
    · subst c
      have hnot : k ∉ ks := fun z => Nat.lt_irrefl _ (hp.1 k z)
      obtain ⟨f1, f2⟩ := filt_gt k (ks.filter fun k => decide (g3 k ∈ ms)) fun y hy => Nat.le_of_lt (hp.1 y (List.mem_filter.mp hy).1)
      rw [if_pos rfl, if_pos he, row_out k ks hnot, List.filter_cons_of_pos (by simpa using he), List.filter_cons_of_neg (by simp), List.filter_cons_of_pos (by simp), f1, f2]
      rfl
    · have hl2 := (List.mem_cons.mp hl).resolve_left (Ne.symm c)
      have hlt := hp.1 e hl2
      rw [if_neg fun z => c (g3_inj z), row_in e he ks hp.2 hl2]
      by_cases y : g3 k ∈ ms
      · rw [if_pos y, List.filter_cons_of_pos (p := fun k => decide (g3 k ∈ ms)) (by simpa using y), List.filter_cons_of_pos (by simpa using hlt), List.filter_cons_of_neg (by simpa using hlt)]
        rfl
      · rw [if_neg y, List.filter_cons_of_neg (p := fun k => decide (g3 k ∈ ms)) (by simpa using y)]
        rfl
theorem slot_cnt (ms : List Int) (s : Int) : ∀ ns : List Int, (slotI ms s ns).countP Option.isNone = ns.countP (fun x => decide (x ∈ ms)) + ns.count s
  | [] => rfl
  | x :: ns => by
    have e0 : slotI ms s (x :: ns) = ((if x ∈ ms then none else some x) :: (if x = s then [none] else [])) ++ slotI ms s ns := rfl
    rw [e0, List.countP_append, slot_cnt ms s ns, List.countP_cons, List.countP_cons, List.count_cons]
    by_cases a : x ∈ ms <;> by_cases b : x = s
    · subst b; rw [if_pos a, if_pos rfl]; simp [a]; omega
    · rw [if_pos a, if_neg b]; simp [a, b]; omega
    · subst b; rw [if_neg a, if_pos rfl]; simp [a]; omega
    · rw [if_neg a, if_neg b]; simp [a, b]
theorem row_cnt (ms : List Int) (f z : Int) : ∀ ns : List Int, (rowI ms f z ns).length = ns.countP (fun x => decide (x ∈ ms)) + ns.count f
  | [] => rfl
  | x :: ns => by
    have e0 : rowI ms f z (x :: ns) = ((if x = f then [z] else []) ++ (if x ∈ ms then [x] else [])) ++ rowI ms f z ns := rfl
    rw [e0, List.length_append, row_cnt ms f z ns, List.countP_cons, List.count_cons, List.length_append]
    by_cases a : x ∈ ms <;> by_cases b : x = f
    · subst b; rw [if_pos a, if_pos rfl]; simp [a]; omega
    · rw [if_pos a, if_neg b]; simp [a, b]; omega
    · subst b; rw [if_neg a, if_pos rfl]; simp [a]; omega
    · rw [if_neg a, if_neg b]; simp [a, b]
theorem keys_nil (pa : Nat → Ad) (N : Nat) : keysQ pa N [] = List.range N := List.filter_eq_self.mpr fun k _ => decide_eq_true (List.nil_prefix ..)
section
variable {pa : Nat → Ad} {c : Ad} {ms : List Int} {N e l : Nat} {z : Int}
theorem g3_nodup (N : Nat) : ((List.range N).map g3).Nodup := List.Pairwise.map g3 (fun i j h e => h (g3_inj e)) List.nodup_range
theorem hop_slots (hm : ∀ k, g3 k ∈ ms ↔ k < N ∧ c <+: pa k) (hl : l < N) : slotI ms (g3 l) ((List.range N).map g3) = (ssQ pa N (l + 1) []).map (slH pa c) := by
  rw [slot_in (fun k h => ((hm k).mp h).2) l (List.range N) List.pairwise_lt_range (fun k hk h => (hm k).mpr ⟨List.mem_range.mp hk, h⟩) (List.mem_range.mpr hl)]
  unfold ssQ lowQ highQ
  rw [keys_nil, List.map_append, List.map_cons, List.map_map, List.map_map]
  rfl
theorem hop_rows (hm : ∀ k, g3 k ∈ ms ↔ k < N ∧ c <+: pa k) (he : e < N) (hc : c <+: pa e) : rowI ms (g3 e) z ((List.range N).map g3) = (ssQ pa N e c).map (valG g3 z) := by
  rw [row_in e ((hm e).mpr ⟨he, hc⟩) (List.range N) List.pairwise_lt_range (List.mem_range.mpr he)]
  have ek : (List.range N).filter (fun k => decide (g3 k ∈ ms)) = keysQ pa N c := List.filter_congr fun k hk => decide_eq_decide.mpr ((hm k).trans ⟨fun h => h.2, fun h => ⟨List.mem_range.mp hk, h⟩⟩)
  rw [ek]
  unfold ssQ lowQ highQ
  rw [List.map_append, List.map_cons, List.map_map, List.map_map]
  rfl
theorem cnt_one {ns : List Int} {x : Int} (h : ns.Nodup) (hx : x ∈ ns) : ns.count x = 1 := by
  rw [h.count, if_pos hx]
theorem hop_enough (he : e < N) (hl : l < N) : (slotI ms (g3 l) ((List.range N).map g3)).countP Option.isNone ≤ (rowI ms (g3 e) z ((List.range N).map g3)).length := by
  rw [slot_cnt, row_cnt, cnt_one (g3_nodup N) (List.mem_map_of_mem (List.mem_range.mpr hl)), cnt_one (g3_nodup N) (List.mem_map_of_mem (List.mem_range.mpr he))]
  exact Nat.le_refl _
theorem fill_at : ∀ (ss : List (Option Int)) (R : List Int) (i r : Nat) (x : Int), ss[i]? = some none → (ss.take i).countP Option.isNone = r → R[r]? = some x → (fillL ss R)[i]? = some x
  | [], _, _, _, _, h, _, _ => by simp at h
  | some y :: ss, R, 0, r, x, h, _, _ => by simp at h
  | some y :: ss, R, i + 1, r, x, h, hr, hx => by
    show (fillL ss R)[i]? = some x
    rw [List.take_succ_cons, List.countP_cons_of_neg (by simp)] at hr
    exact fill_at ss R i r x (by simpa using h) hr hx
  | none :: ss, R, 0, r, x, h, hr, hx => by
    have : r = 0 := by simpa using hr.symm
    subst this
    show some (R.headD 0) = some x
    cases R with
    | nil => simp at hx
    | cons y R => simpa using hx
  | none :: ss, R, i + 1, r, x, h, hr, hx => by
    show (fillL ss R.tail)[i]? = some x
    rw [List.take_succ_cons, List.countP_cons_of_pos (by simp)] at hr
    subst hr
    refine fill_at ss R.tail i _ x (by simpa using h) rfl ?_
    rw [← List.drop_one, List.getElem?_drop, Nat.add_comm]
    exact hx
theorem fill_sm : ∀ (ss : List (Option Int)) (R : List Int) (i : Nat) (x : Int), ss[i]? = some (some x) → (fillL ss R)[i]? = some x
  | [], _, _, _, h => by simp at h
  | some y :: ss, R, 0, x, h => by
    show some y = some x
    simpa using h
  | some y :: ss, R, i + 1, x, h => by
    show (fillL ss R)[i]? = some x
    exact fill_sm ss R i x (by simpa using h)
  | none :: ss, R, 0, x, h => by simp at h
  | none :: ss, R, i + 1, x, h => by
    show (fillL ss R.tail)[i]? = some x
    exact fill_sm ss R.tail i x (by simpa using h)
theorem range_low {N n : Nat} (h : n ≤ N) : (List.range N).filter (fun k => decide (k < n)) = List.range n := by
  have e : List.range N = List.range n ++ (List.range (N - n)).map (n + ·) := by rw [← List.range_add, Nat.add_sub_cancel' h]
  rw [e, List.filter_append, List.filter_eq_self.mpr (fun k hk => decide_eq_true (List.mem_range.mp hk)), List.filter_eq_nil_iff.mpr, List.append_nil]
  intro k hk y
  obtain ⟨i, _, rfl⟩ := List.mem_map.mp hk
  have := of_decide_eq_true y
  omega
/-- where first and second lie behind the hop -/
theorem hop_places (hl : l < N) (hel : e < l) (hc : c <+: pa e) (hcl : ¬ c <+: pa l) : ∃ m : Nat, (fillL ((ssQ pa N (l + 1) []).map (slH pa c)) ((ssQ pa N e c).map (valG g3 z)))[m]? = some (g3 e) ∧ (fillL ((ssQ pa N (l + 1) []).map (slH pa c)) ((ssQ pa N e c).map (valG g3 z)))[l]? = some (g3 l) ∧ ((m < l) ↔ ∃ k, e < k ∧ k < l ∧ c <+: pa k) := by
  have hlow : lowQ pa N (l + 1) [] = List.range (l + 1) := by
    unfold lowQ
    rw [keys_nil]
    exact range_low hl
  have hss : ∀ i, i ≤ l → ((ssQ pa N (l + 1) []).map (slH pa c))[i]? = some (slH pa c (some i)) := fun i hi => by
    unfold ssQ
    rw [hlow, List.map_append, List.getElem?_append_left (by simp; omega), List.getElem?_map, List.getElem?_map, List.getElem?_range (by omega)]
    rfl
  have hsn : ((ssQ pa N (l + 1) []).map (slH pa c))[l + 1]? = some none := by
    unfold ssQ
    rw [hlow, List.map_append, List.getElem?_append_right (by simp)]
    simp
    rfl
  have hct : ∀ i, i ≤ l + 1 → (((ssQ pa N (l + 1) []).map (slH pa c)).take i).countP Option.isNone = (List.range i).countP (nearB pa c) := fun i hi => by
    have : ((ssQ pa N (l + 1) []).map (slH pa c)).take i = (List.range i).map fun k => slH pa c (some k) := by
      unfold ssQ
      rw [hlow, List.map_append, List.take_append_of_le_length (by simp; omega), List.map_map, ← List.map_take, List.take_range, Nat.min_eq_left hi]
      rfl
    rw [this, List.countP_map]
    refine List.countP_congr fun k _ => ?_
    show Option.isNone (if c <+: pa k then none else some (g3 k)) = true ↔ decide (c <+: pa k) = true
    by_cases y : c <+: pa k
    · rw [if_pos y]; simp [y]
    · rw [if_neg y]; simp [y]
  have hrow : ((ssQ pa N e c).map (valG g3 z))[(List.range e).countP (nearB pa c) + 1]? = some (g3 e) := by
    have h1 : lowQ pa N e c = (List.range e).filter (nearB pa c) := by
      unfold lowQ keysQ
      rw [List.filter_filter]
      have : (List.range N).filter (fun k => decide (k < e) && decide (c <+: pa k)) = ((List.range N).filter fun k => decide (k < e)).filter (nearB pa c) := by
        rw [List.filter_filter]
        refine List.filter_congr fun k _ => ?_
        show (decide (k < e) && nearB pa c k) = _
        rw [Bool.and_comm]
      rw [this, range_low (by omega)]
    have h2 : ∃ t, highQ pa N e c = e :: t := by
      unfold highQ keysQ
      rw [List.filter_filter]
      have e2 : List.range N = List.range e ++ e :: (List.range (N - e - 1)).map (e + 1 + ·) := by
        have h3 : List.range N = List.range (e + 1) ++ (List.range (N - (e + 1))).map (e + 1 + ·) := by rw [← List.range_add, Nat.add_sub_cancel' (by omega)]
        rw [h3, List.range_succ, List.append_assoc, Nat.sub_sub]
        rfl
      rw [e2, List.filter_append, List.filter_eq_nil_iff.mpr (fun k hk => by
        have := List.mem_range.mp hk
        simp [this]), List.nil_append, List.filter_cons_of_pos (by simp [hc])]
      exact ⟨_, rfl⟩
    obtain ⟨t, ht⟩ := h2
    unfold ssQ
    rw [h1, ht, List.map_append, List.getElem?_append_right (by simp [List.countP_eq_length_filter])]
    simp [List.countP_eq_length_filter]
    rfl
  have hl2 := hss l (Nat.le_refl _)
  have esl : slH pa c (some l) = some (g3 l) := if_neg hcl
  rw [esl] at hl2
  have hcnt : ∀ b, e < b → (∀ k, e < k → k < b → ¬ c <+: pa k) → (List.range b).countP (nearB pa c) = (List.range e).countP (nearB pa c) + 1 := fun b hb hno => by
    have e2 : List.range b = List.range e ++ e :: (List.range (b - e - 1)).map (e + 1 + ·) := by
      have h3 : List.range b = List.range (e + 1) ++ (List.range (b - (e + 1))).map (e + 1 + ·) := by rw [← List.range_add, Nat.add_sub_cancel' (by omega)]
      rw [h3, List.range_succ, List.append_assoc, Nat.sub_sub]
      rfl
    have h0 : ((List.range (b - e - 1)).map (e + 1 + ·)).countP (nearB pa c) = 0 := List.countP_eq_zero.mpr fun k hk y => by
      obtain ⟨i, hi, rfl⟩ := List.mem_map.mp hk
      have := List.mem_range.mp hi
      exact hno (e + 1 + i) (by omega) (by omega) (of_decide_eq_true y)
    rw [e2, List.countP_append, List.countP_cons_of_pos (by exact decide_eq_true hc), h0]
  by_cases ex : ∃ k, e < k ∧ k < l ∧ c <+: pa k
  · -- the first of them
    have least : ∀ n, (∃ k, e < k ∧ k < l ∧ c <+: pa k ∧ k ≤ n) → ∃ b, e < b ∧ b < l ∧ c <+: pa b ∧ ∀ k, e < k → k < b → ¬ c <+: pa k := by
      intro n
      induction n with
      | zero =>
        rintro ⟨k, h1, h2, h3, h4⟩
        omega
      | succ n ih =>
        rintro ⟨k, h1, h2, h3, h4⟩
        by_cases y : ∃ k, e < k ∧ k < l ∧ c <+: pa k ∧ k ≤ n
        · exact ih y
        · exact ⟨k, h1, h2, h3, fun k' a1 a2 a3 => y ⟨k', a1, by omega, a3, by omega⟩⟩
    obtain ⟨k, h1, h2, h3⟩ := ex
    obtain ⟨b, b1, b2, b3, b4⟩ := least k ⟨k, h1, h2, h3, Nat.le_refl _⟩
    refine ⟨b, fill_at _ _ b _ _ ?_ rfl ?_, fill_sm _ _ _ _ hl2, fun _ => ⟨b, b1, b2, b3⟩, fun _ => b2⟩
    · rw [hss b (by omega)]
      exact congrArg some (if_pos b3)
    · rw [hct b (by omega), hcnt b b1 b4]
      exact hrow
  · refine ⟨l + 1, fill_at _ _ _ _ _ hsn rfl ?_, fill_sm _ _ _ _ hl2, fun h => absurd h (by omega), fun h => absurd h ex⟩
    rw [hct _ (Nat.le_refl _), hcnt (l + 1) (by omega) fun k h1 h2 h3 => ?_]
    · exact hrow
    · by_cases y : k = l
      · subst y
        exact hcl h3
      · exact ex ⟨k, h1, by omega, h3⟩
end
end K27
set_option Elab.async false
set_option linter.all false
set_option maxRecDepth 100000
set_option maxHeartbeats 8000000
namespace K27
open PySem PySem.Spec PyProof.Rows L2 Evl
open Dt (sub sub_nil sub_app sub_one sub_pre lcp lcp_le lcp_pre lv ad sub_ad isLf isLf_o idx_lt ad_len)
/-! ### a standing, a tape, the form and its paths -/
theorem pshL_le (p q : Ad) (rs : List (List Int)) (n : Int) (L : Lns) : (pshL p rs n L q).length ≤ (L q).length + 1 := by
  unfold pshL
  by_cases h : q <+: p
  · rw [if_pos h, (insE_perm _ _).length_eq]
    exact Nat.le_refl _
  · rw [if_neg h]
    omega
structure JS (K : PySem.W.Frag) (C CS : Addr) (S : List Addr) (H : Hp) (tp ca : Addr) (fv : V) (pl a ta la sd : Addr) (Ls : List Addr) (T : Dt) (L : Lns) (kv : List (Key × V)) (m : Nat) : Prop where
  cx : CtxF K S H fv pl T
  st : StE K C CS S H a ta la sd Ls T L kv
  con : Con T L
  se : Seat T L kv
  t : Tape K H tp ca
  sz : ∀ q, (L q).length ≤ m
  kl : kv.length ≤ m
  m9 : m ≤ 100
  tS : tp ∈ S
  tL : tp ∉ sd :: Ls
  cS : ca ∉ S
section
variable {K : PySem.W.Frag} {C CS : Addr} {S : List Addr} {H H' : Hp} {tp ca : Addr} {fv : V} {pl a ta la sd : Addr} {Ls : List Addr} {T : Dt} {L : Lns} {kv : List (Key × V)} {m : Nat}
theorem JS.rn (j : JS K C CS S H tp ca fv pl a ta la sd Ls T L kv m) (r : Rn K tp ca H H') : JS K C CS S H' tp ca fv pl a ta la sd Ls T L kv m :=
  ⟨j.cx.keep (r.gos.wide fun y hy => by rw [List.mem_singleton.mp hy]; exact j.tS), j.st.keep r.gos (fun y hy => by rw [List.mem_singleton.mp hy]; exact j.tS) (fun y hy => by rw [List.mem_singleton.mp hy]; exact j.tL), j.con, j.se, r.b, j.sz, j.kl, j.m9, j.tS, j.tL, j.cS⟩
theorem JS.same (j : JS K C CS S H tp ca fv pl a ta la sd Ls T L kv m) (e : Same H H') : JS K C CS S H' tp ca fv pl a ta la sd Ls T L kv m := j.rn (Rn.of j.t e)
theorem JS.ht20 (j : JS K C CS S H tp ca fv pl a ta la sd Ls T L kv m) : T.ht < 20 := by have := j.cx.h; omega
theorem JS.sz' (j : JS K C CS S H tp ca fv pl a ta la sd Ls T L kv m) : ∀ q, (L q).length ≤ 100000 := fun q => by have := j.sz q; have := j.m9; omega
theorem JS.ok (j : JS K C CS S H tp ca fv pl a ta la sd Ls T L kv m) : LnsOK T L kv := ⟨j.st.rk, j.st.pw, j.se, fun q => by have := j.sz q; have := j.m9; omega, j.cx.g, j.ht20, j.cx.z⟩
theorem JS.tape {J : JS K C CS S H tp ca fv pl a ta la sd Ls T L kv m} (g : GoS (sd :: Ls) H H') : Tape K H' tp ca := by
  obtain ⟨cs, i, b, s, h1, h2, h3, h4⟩ := J.t
  exact ⟨cs, i, b, s, h1, g.at h2 J.tL, g.at h3 (fun z => J.cS (J.st.sub _ z)), h4⟩
theorem JS.psh (j : JS K C CS S H tp ca fv pl a ta la sd Ls T L kv m) {n : Int} {i : Nat} {p : Ad} {rs : List (List Int)} (hp : (lv T)[i]? = some p) (hn : valV kv (Sum.inl n : Key) = none) (hm : m + 1 ≤ 100) (g : GoS (sd :: Ls) H H')
    (s : StE K C CS S H' a ta la sd Ls T (pshL p rs n L) (putK kv (Sum.inl n : Key) (.int (i : Nat)))) : JS K C CS S H' tp ca fv pl a ta la sd Ls T (pshL p rs n L) (putK kv (Sum.inl n : Key) (.int (i : Nat))) (m + 1) := by
  obtain ⟨w, hw, hw0⟩ := lv_lf (List.mem_of_getElem? hp)
  exact ⟨j.cx.keep (g.wide fun y hy => j.st.sub y hy), s, pshL_con j.con hw hw0, j.se.psh rs hp hn, JS.tape (J := j) g, fun q => Nat.le_trans (pshL_le p q rs n L) (Nat.succ_le_succ (j.sz q)), Nat.le_trans (putK_leG kv _ _) (Nat.succ_le_succ j.kl), hm, j.tS, j.tL, j.cS⟩
end
/-! ### words that are used with Evl -/
section
variable {K : PySem.W.Frag} {σ : L2.St} {H H' : Hp} {ta tb te : TE} {t : TT} {tz : TS} {D : Ends}
theorem et_yes : EvT tYes σ H true := fun H1 _ _ q => q H1 (Ex.refl H1)
theorem given_all (n : Nat) (v : Nat → V) : given n (fun _ => true) v = (List.range n).map v := by
  unfold given
  rw [List.filter_eq_self.mpr fun _ _ => rfl]
theorem el_is {xs ys : List V} (h : EvL te σ H xs) (e : xs = ys) : EvL te σ H ys := e ▸ h
theorem q_asgTF {i : Nat} {xs : List V} (h : EvL te σ H xs) (k : ∀ p H1 ob, H p = none → Ex H H1 → H1 p = some (.frz ob (.tup xs)) → ob.dict = none → ob.cls = .type "tuple" → tz D (σ.set i (some (.ref p))) H1) : tSeq (tAsg (tCB (rTupF K) (tCons te tNil)) (gName i)) tz D σ H :=
  h H (Ex.refl H) _ fun p H1 hp e h1 => ⟨p, xs, rfl, SqL.of h1, fun l o hl hd hc => k l _ o (fresh_back e hl) (e.trans (Ex.new hl)) upd_same hd hc⟩
/-- a comprehension that makes a tuple of one number each turn -/
theorem lc_tups {tr : TA} {j : Nat} {vs : List Nat} {n : Int} {c : List V} (h : EvA tr σ H [.int n]) (hn : 0 ≤ n ∧ n ≤ 900) (hw : ∀ x, wipe ((wipe σ vs).set j (some x)) vs = wipe σ vs)
    (he : ∀ (i : Nat) H1, Ex H H1 → (i : Int) < n → EvU te ((wipe σ vs).set j (some (.int (i : Int)))) H1 c) : ∀ H1, Ex H H1 → ∀ Q : VK, (∀ p H2 (as : List Addr), H1 p = none → Ex H1 H2 → H2 p = some (.lst (as.map V.ref)) → as.length = n.toNat → (∀ x ∈ as, H2 x = some (.tup c)) → Q (.ref p) H2) → tLc (iRng1 tr) (gName j) tYes te vs σ H1 Q := fun H0 e Q q =>
  h H0 e _ fun H1 e1 => ⟨n, rfl, by omega, by omega, fun Dl hD => lc_range (lo := 0) (n := n.toNat) (fun i H' => Ex H1 H' ∧ ∃ as : List Addr, H' Dl = some (.lst (as.map V.ref)) ∧ as.length = i ∧ ∀ x ∈ as, H' x = some (.tup c)) ⟨Ex.new hD, [], upd_same, rfl, fun x hx => nomatch hx⟩ (fun i H' hi ⟨p, as, h1, h2, h3⟩ => by
    have e0 : (0 : Int) + (i : Int) = (i : Int) := Int.zero_add _
    show wipe ((wipe σ vs).set j (some (.int ((0 : Int) + (i : Int))))) vs = wipe σ vs ∧ te ((wipe σ vs).set j (some (.int ((0 : Int) + (i : Int))))) H' _
    rw [e0]
    refine ⟨hw _, he i H' ((e.trans e1).trans p) (by omega) H' (Ex.refl H') _ fun b H2 hb e2 h4 => ?_⟩
    have hD2 := e2 _ _ h1
    have nb : b ≠ Dl := fun z => by rw [z, hD2] at h4; exact nomatch h4
    refine ⟨_, hD2, small1000 (by rw [List.length_map]; omega), Ex.mut (p.trans e2) hD, as ++ [b], by rw [upd_same, List.map_append]; rfl, by rw [List.length_append, h2]; rfl, fun x hx => ?_⟩
    rcases List.mem_append.mp hx with hx | hx
    · have := e2 _ _ (h3 x hx)
      rw [upd_ne (fun z => by rw [z, hD2] at this; exact nomatch this)]
      exact this
    · rw [List.mem_singleton.mp hx, upd_ne nb]
      exact h4) fun H' ⟨p, as, h1, h2, h3⟩ => q Dl H' as (fresh_back e1 hD) (e1.trans p) h1 h2 h3⟩
end
theorem g3_mul (k : Nat) : ((k : Nat) : Int) * 3 = g3 k := by unfold g3; omega
theorem g3_mul' (k : Nat) : 3 * ((k : Nat) : Int) = g3 k := by unfold g3; omega
theorem near_test {q p : Ad} {m : Nat} (hm : m < q.length) : decide (q.take (m + 1) <+: p) = (decide (p = q) || decide (m < lcp p q)) := by
  have e := lcp_pre q p (m + 1) hm
  have e2 : decide (q.take (m + 1) <+: p) = decide (m < lcp p q) := decide_eq_decide.mpr (e.trans (by rw [lcp_comm q p]; exact Iff.rfl))
  rw [e2]
  by_cases c : p = q
  · subst c
    have hl := (lcp_pre p p p.length (Nat.le_refl _)).mp (by rw [List.take_length]; exact List.prefix_refl _)
    rw [decide_eq_true rfl, Bool.true_or]
    exact decide_eq_true (by omega)
  · rw [decide_eq_false c, Bool.false_or]
/-- the numbers of the queues beneath c -/
def nearL (T : Dt) (c : Ad) : List Int := ((List.range T.lf).filter fun i => decide (c <+: (lv T).getD i [])).map fun i => ((i : Nat) : Int)
theorem near_mem {T : Dt} {c p : Ad} {i : Nat} (h : (lv T)[i]? = some p) : ((i : Nat) : Int) ∈ nearL T c ↔ c <+: p := by
  have hi : i < T.lf := (List.getElem?_eq_some_iff.mp h).1
  have hp : (lv T).getD i [] = p := by rw [List.getD_eq_getElem?_getD, h]; rfl
  unfold nearL
  rw [List.mem_map]
  constructor
  · rintro ⟨k, hk, e⟩
    have : k = i := by omega
    subst this
    rw [← hp]
    exact of_decide_eq_true (List.mem_filter.mp hk).2
  · intro hc
    exact ⟨i, List.mem_filter.mpr ⟨List.mem_range.mpr hi, decide_eq_true (by rw [hp]; exact hc)⟩, rfl⟩
theorem near_get {T : Dt} {c : Ad} {r : Nat} (h : r < (nearL T c).length) : ∃ (i : Nat) (p : Ad), (nearL T c)[r]? = some (i : Nat) ∧ (lv T)[i]? = some p ∧ c <+: p := by
  have h1 : (nearL T c)[r]? = some ((nearL T c)[r]) := List.getElem?_eq_getElem h
  have h2 := List.getElem_mem h
  revert h1 h2
  generalize (nearL T c)[r] = x
  intro h1 h2
  unfold nearL at h2
  obtain ⟨i, hi, rfl⟩ := List.mem_map.mp h2
  obtain ⟨p, hp⟩ := lv_get (List.mem_range.mp (List.mem_filter.mp hi).1)
  have hi2 := of_decide_eq_true (List.mem_filter.mp hi).2
  rw [List.getD_eq_getElem?_getD, hp] at hi2
  exact ⟨i, p, h1, hp, hi2⟩
end K27
set_option Elab.async false
set_option linter.all false
set_option maxRecDepth 100000
set_option maxHeartbeats 8000000
namespace K27
open PySem PySem.Spec PyProof.Rows L2 Evl
open Dt (sub sub_nil sub_app sub_one sub_pre lcp lcp_le lcp_pre lv ad sub_ad isLf isLf_o idx_lt ad_len)
/-! ### _law_hop -/
/-- the queues that were drawn -/
structure QsOK (H : Hp) (ql : Addr) (T : Dt) (pa : Nat → Ad) (qn : Nat → Nat) (N : Nat) : Prop where
  l : H ql = some (.lst ((List.range N).map fun k => V.int (qn k : Nat)))
  p : ∀ k, k < N → (lv T)[qn k]? = some (pa k)
theorem QsOK.rn {K : PySem.W.Frag} {tp ca : Addr} {H H' : Hp} {ql : Addr} {T : Dt} {pa : Nat → Ad} {qn : Nat → Nat} {N : Nat} (h : QsOK H ql T pa qn N) (r : Rn K tp ca H H') (ne : ql ≠ tp) : QsOK H' ql T pa qn N := ⟨r.at h.l ne, h.p⟩
theorem QsOK.at {H : Hp} {ql : Addr} {T : Dt} {pa : Nat → Ad} {qn : Nat → Nat} {N : Nat} (h : QsOK H ql T pa qn N) {k : Nat} (hk : k < N) : atI ((List.range N).map fun k => V.int (qn k : Nat)) ((k : Nat) : Int) = some (.int (qn k : Nat)) := atI_nat (by rw [List.getElem?_map, List.getElem?_range hk]; rfl)
theorem FrzT.rn {K : PySem.W.Frag} {tp ca : Addr} {H H' : Hp} {a : Addr} {ns : List Int} (h : FrzT H a ns) (r : Rn K tp ca H H') : FrzT H' a ns := by
  obtain ⟨ob, h1, h2, h3⟩ := h
  refine ⟨ob, r.at h1 fun z => ?_, h2, h3⟩
  obtain ⟨_, _, _, _, _, t, _⟩ := r.a
  rw [← z, h1] at t
  exact nomatch t
theorem dp_refs {K : PySem.W.Frag} {H : Hp} {ns : List Int} : ∀ as : List Addr, (∀ x ∈ as, H x = some (.tup (ns.map V.int))) → DpAll K H (as.map V.ref) ((List.replicate as.length ns).map intsD)
  | [], _ => .nil
  | a1 :: as, h => .cons (dp_intT (SqT.of (h a1 (List.mem_cons_self ..)))) (dp_refs as fun x hx => h x (List.mem_cons_of_mem _ hx))
theorem rk1_rank {c : Nat} (h : c ≤ 100) : rankOf (intsD (rk1 c)) = true := rank_intsD ⟨by show 1 ≤ 8; decide, fun i hi => by
  obtain rfl : i = 2 * (c : Int) - 1 := by simpa [rk1] using hi
  unfold rankB
  omega⟩
theorem take_pre {p c : Ad} {n : Nat} (h : c <+: p) (hn : c.length = n) : p.take n = c := by
  rw [← hn]
  exact (List.prefix_iff_eq_take.mp h).symm
theorem q_asg0 {te : TE} {i : Nat} {tz : TS} {D : Ends} {σ : L2.St} {H : Hp} (h : te σ H fun v H1 => tz D (σ.set i (some v)) H1) : tSeq (tAsg te (gName i)) tz D σ H := h
theorem op0 {r : R2} {ta tb : TE} {σ : L2.St} {H : Hp} {Q : VK} (h : ta σ H fun x H1 => tb σ H1 fun y H2 => r x y H2 Q) : tOp r ta tb σ H Q := h
theorem ev_lenT {K : PySem.W.Frag} {ta : TE} {σ : L2.St} {H : Hp} {p : Addr} {xs : List V} (ha : Ev ta σ H (.ref p)) (h : SqT K H p xs) : Ev (tCB (rLenS K) (tCons ta tNil)) σ H (.int (xs.length : Int)) := fun H1 e Q q =>
  ha H1 e _ fun H2 e2 => ⟨p, xs, rfl, Or.inr (ex_t (e.trans e2) h), q H2 e2⟩
theorem el_lcR2 {σ : L2.St} {H : Hp} {t : TT} {te : TE} {ta : TA} {j : Nat} {vs : List Nat} {lo n : Int} (f : Nat → Bool) (v : Nat → V) (h : EvA ta σ H [.int lo, .int n]) (hn : 0 ≤ lo ∧ lo ≤ 40000 ∧ 0 ≤ n ∧ n ≤ 40000) (hw : ∀ x, wipe ((wipe σ vs).set j (some x)) vs = wipe σ vs)
    (ht : ∀ (i : Nat) H1, Ex H H1 → lo + (i : Int) < n → EvT t ((wipe σ vs).set j (some (.int (lo + (i : Int))))) H1 (f i)) (he : ∀ (i : Nat) H1, Ex H H1 → lo + (i : Int) < n → f i = true → Ev te ((wipe σ vs).set j (some (.int (lo + (i : Int))))) H1 (v i)) :
    EvL (tLc (iRng2 ta) (gName j) t te vs) σ H (given (n - lo).toNat f v) := fun H0 e Q q => h H0 e _ fun H1 e1 => ⟨lo, n, rfl, ⟨by omega, by omega, by omega, by omega⟩, fun Dl hD =>
  lc_range (lo := lo) (n := (n - lo).toNat) (Cw H1 f v Dl) ⟨hD, Ex.new hD, upd_same⟩ (fun i H' hi p => ⟨hw _, cw_turn p (by omega) (ht i H1 (e.trans e1) (by omega)) (fun hf => he i H1 (e.trans e1) (by omega) hf)⟩) (fun H' p => q Dl H' (fresh_back e1 p.1) (e1.trans p.2.1) p.2.2)⟩
theorem may_comm (p q1 q2 : Ad) : mayB p q1 q2 = mayB p q2 q1 := by
  unfold mayB
  rw [lcp_comm q1 q2, Bool.or_comm]
  congr 2
  exact decide_eq_decide.mpr ⟨Eq.symm, Eq.symm⟩
theorem eqv_ints (ns ms : List Int) : PyData.eqv (intsD ns) (intsD ms) = decide (ns = ms) := by
  unfold intsD
  rw [PyData.eqv]
  exact PySem.W.ked_eqvAll ns ms
theorem rv_neD {K : PySem.W.Frag} {H : Hp} {x y : V} {d e : PyData} (h1 : Dp K H x d) (h2 : Dp K H y e) (s1 : SeqAt.shaped d = true) (s2 : SeqAt.shaped e = true) : RV (rNeD K) x y H (.bl (!PyData.eqv d e)) := fun H1 ex _ q => ⟨d, e, dp_same ex h1, dp_same ex h2, s1, s2, q H1 (Ex.refl H1)⟩
theorem rv_eqD {K : PySem.W.Frag} {H : Hp} {x y : V} {d e : PyData} (h1 : Dp K H x d) (h2 : Dp K H y e) (s1 : SeqAt.shaped d = true) (s2 : SeqAt.shaped e = true) : RV (rEqD K) x y H (.bl (PyData.eqv d e)) := fun H1 ex _ q => ⟨d, e, dp_same ex h1, dp_same ex h2, s1, s2, q H1 (Ex.refl H1)⟩
theorem rv_isnot_bl {H : Hp} {a b : Bool} : RV (fun x y H Q => ∃ a b, x = .bl a ∧ y = .bl b ∧ Q (.bl (!decide (a = b))) H) (.bl a) (.bl b) H (.bl (!decide (a = b))) := fun H1 _ _ q => ⟨a, b, rfl, rfl, q H1 (Ex.refl H1)⟩
theorem at_nilL (L : Lns) : at_ [] L = L := rfl
def spHop (K : PySem.W.Frag) (C CS : Addr) : Sp := fun vs H Q _ => ∃ (tp ca pl a ql : Addr) (fv : V) (S : List Addr) (ta la sd : Addr) (Ls : List Addr) (T : Dt) (pa : Nat → Ad) (qn : Nat → Nat) (N : Nat) (kv : List (Key × V)), vs = [.ref tp, fv, .ref pl, .ref a, .ref ql] ∧ JS K C CS S H tp ca fv pl a ta la sd Ls T (L0 pa N) kv 16 ∧ QsOK H ql T pa qn N ∧ ql ≠ tp ∧ 2 ≤ N ∧ N ≤ 16 ∧ ∀ H', Rn K tp ca H H' → Q (.bl true) H'
section
variable {P : Program} {w : World} {K : PySem.W.Frag} {mg : Str → Option Value} {base : Heap} {C CS U fG : Addr}
theorem ok_hop (D : DefAt K mg "_law_hop" s_law_hop ["tape", "form", "paths", "standing", "queues"]) (T0 : Txt K mg) (SC : StCl K CS) (GDraw : CalX P w K mg base CX0 1 "_law_draw" ["tape", "many"] (spDraw K)) (GCommon : CalX P w K mg base CX0 1 "_law_common" ["one", "other"] (spCommon K)) (GSlots : CalX P w K mg base CX0 1 "_law_slots" ["order", "side", "first", "second", "fresh"] (spSlots K)) (GTurned : CalX P w K mg base CX0 1 "_law_turned" ["before", "after", "one", "other"] spTurned) (GAsk : CalX P w K mg base CX0 25 "_law_ask" ["named", "form", "queue", "one", "other"] (spAsk K C U))
    (MTwin : MQ P w K mg base CS 27 "twin" ["self"] (spTwin K C CS)) (MPush : MQ P w K mg base CS 5 "push" ["self", "number", "queue", "ranks"] (spPushQ K C CS)) (MOrder : MQ P w K mg base CS 21 "order" ["self"] (spOrdF K C CS)) :
    CalX P w K mg base CX0 28 "_law_hop" ["tape", "form", "paths", "standing", "queues"] (spHop K C CS) := by
  refine D.ok sc_law_hop (fun vs H Q E h => ?_) (fun f cdv A outer s H vs Q E hr h => ?_)
  · obtain ⟨tp, ca, pl, a, ql, fv, S, ta, la, sd, Ls, T, pa, qn, N, kv, rfl, _⟩ := h
    rfl
  obtain ⟨tp, ca, pl, a, ql, fv, S, ta, la, sd, Ls, T, pa, qn, N, kv, rfl, j, hQ, nq, hN2, hN, q⟩ := h
  refine ⟨_, (pss_cons (ps_set (i := 6) sc_law_hop.nd rfl (.inl rfl) (pe_callTy (call_tupleF (K := K) (by exact rfl)) (by rfl) T0.tuple PyProof.Rows.boot_tuple (pa_cons (pe_lc (own := [("k", 5)]) (g := gName 5) (tt := tYes) (by rfl) sc_law_hop.nd (pi_range1 (by rfl) T0.range (pa_cons (pe_callB call_len_seq (by rfl) T0.len PySem.boot_len (pa_cons (pv 4) pa_nil)) pa_nil)) (blkOk_by (own := [("k", 5)]) (N := N_law_hop) (sc := defScope s_law_hop) (by decide +kernel)) (fun _ _ _ _ _ => pg_name (i := 5) sc_law_hop.nd rfl (Or.inl rfl)) (fun _ _ _ _ _ => pts_nil) (fun _ _ _ _ _ => by exact (pe_op op_mul (pv 5) pe_int))) pa_nil))) 
    (pss_cons (ps_set (i := 7) sc_law_hop.nd rfl (.inr rfl) (pe_c0 GDraw hr (by decide) rfl (pa_cons (pv 0) (pa_cons (pe_op op_sub (pe_callB call_len_seq (by rfl) T0.len PySem.boot_len (pa_cons (pv 4) pa_nil)) pe_int) pa_nil)))) 
    (pss_cons (ps_set (i := 8) sc_law_hop.nd rfl (.inr rfl) (pe_op op_add (pv 7) pe_int)) 
    (pss_cut (ps_if (pt_cmpR op_eq (pe_c0 GDraw hr (by decide) rfl (pa_cons (pv 0) (pa_cons pe_int pa_nil))) pe_int (nomark _)) 
      (pss_one (ps_aug (i := 8) sc_law_hop.nd rfl (.inr rfl) (pe_c0 GDraw hr (by decide) rfl (pa_cons (pv 0) (pa_cons (pe_op op_sub (pe_callB call_len_seq (by rfl) T0.len PySem.boot_len (pa_cons (pv 4) pa_nil)) (pv 8)) pa_nil))) ip_add)) pss_nil) 
    (pss_cons (ps_asg (pe_tup (pa_cons (pe_ix ix_list (pv 4) (pv 7) (fun _ _ => rfl)) (pa_cons (pe_ix ix_list (pv 4) (pv 8) (fun _ _ => rfl)) pa_nil))) (pg_tup (by rfl) (pgs_cons (pg_name (i := 9) sc_law_hop.nd rfl (Or.inr rfl)) (pgs_cons (pg_name (i := 10) sc_law_hop.nd rfl (Or.inl rfl)) pgs_nil)))) 
    (pss_cons (ps_set (i := 11) sc_law_hop.nd rfl (.inr rfl) (pe_c0 GCommon hr (by decide) rfl (pa_cons (pe_ix ix_list (pv 2) (pv 9) (fun _ _ => rfl)) (pa_cons (pe_ix ix_list (pv 2) (pv 10) (fun _ _ => rfl)) pa_nil)))) 
    (pss_cons (ps_if (pt_cmpR op_eq (pv 9) (pv 10) (nomark _)) 
      (pss_one (ps_ret pe_bl)) pss_nil) 
    (pss_cons (ps_set (i := 12) sc_law_hop.nd rfl (.inr rfl) (pe_lc (own := [("k", 5)]) (g := gName 5) (by rfl) sc_law_hop.nd (pi_range1 (by rfl) T0.range (pa_cons (pe_callB call_len_seq (by rfl) T0.len PySem.boot_len (pa_cons (pv 2) pa_nil)) pa_nil)) (blkOk_by (own := [("k", 5)]) (N := N_law_hop) (sc := defScope s_law_hop) (by decide +kernel)) (fun _ _ _ _ _ => pg_name (i := 5) sc_law_hop.nd rfl (Or.inl rfl)) (fun _ _ _ _ _ => by exact (pts_one (PW.pt (pw_or (pt_cmpR op_eq (pv 5) (pv 9) (nomark _)) (pw_or1 (pt_cmpR op_gt (pe_c0 GCommon hr (by decide) rfl (pa_cons (pe_ix (show IxR _ (rIxL K) from ix_list) (pv 2) (pv 5) (fun _ _ => rfl)) (pa_cons (pe_ix (show IxR _ (rIxL K) from ix_list) (pv 2) (pv 9) (fun _ _ => rfl)) pa_nil))) (pv 11) (nomark _))))))) (fun _ _ _ _ _ => by exact (pv 5)))) 
    (pss_cons (ps_set (i := 13) sc_law_hop.nd rfl (.inl rfl) (pe_ix ix_list (pv 12) (pe_c0 GDraw hr (by decide) rfl (pa_cons (pv 0) (pa_cons (pe_callB call_len_seq (by rfl) T0.len PySem.boot_len (pa_cons (pv 12) pa_nil)) pa_nil))) (fun _ _ => rfl))) 
    (pss_cons (ps_setLc (i := 14) (own := [("k", 5)]) (g := gName 5) (by rfl) sc_law_hop.nd rfl (by rfl) (sw_true rfl rfl rfl (by decide +kernel)) (pi_range1 (by rfl) T0.range (pa_cons (pe_callB call_len_seq (by rfl) T0.len PySem.boot_len (pa_cons (pv 4) pa_nil)) pa_nil)) (blkOk_by (own := [("k", 5)]) (N := N_law_hop) (sc := defScope s_law_hop) (by decide +kernel)) (fun _ _ _ _ _ => pg_name (i := 5) sc_law_hop.nd rfl (Or.inl rfl)) (fun _ _ _ _ _ => by exact (pts_one (pt_cmpR (op_in_seqK (K := K) (by exact rfl)) (pe_ix (show IxR _ (rIxL K) from ix_list) (pv 4) (pv 5) (fun _ _ => rfl)) (pv 12) (by rfl)))) (fun _ _ _ _ _ => by exact (pe_op op_mul pe_int (pv 5)))) 
    (pss_cons (ps_set (i := 15) sc_law_hop.nd rfl (.inl rfl) (pe_op op_cat (pe_lc (own := [("k", 5)]) (g := gName 5) (tt := tYes) (by rfl) sc_law_hop.nd (pi_range1 (by rfl) T0.range (pa_cons (pe_op op_add (pv 11) pe_int) pa_nil)) (blkOk_by (own := [("k", 5)]) (N := N_law_hop) (sc := defScope s_law_hop) (by decide +kernel)) (fun _ _ _ _ _ => pg_name (i := 5) sc_law_hop.nd rfl (Or.inl rfl)) (fun _ _ _ _ _ => pts_nil) (fun _ _ _ _ _ => by exact (pe_tup (pa_cons (pe_op op_add (pe_op op_mul pe_int (pv 8)) pe_int) pa_nil)))) (pe_lc (own := [("k", 5)]) (g := gName 5) (tt := tYes) (by rfl) sc_law_hop.nd (pi_range1 (by rfl) T0.range (pa_cons (pe_op op_sub (pe_callB call_len_seq (by rfl) T0.len PySem.boot_len (pa_cons (pe_ix ix_list (pv 2) (pv 13) (fun _ _ => rfl)) pa_nil)) (pv 11)) pa_nil)) (blkOk_by (own := [("k", 5)]) (N := N_law_hop) (sc := defScope s_law_hop) (by decide +kernel)) (fun _ _ _ _ _ => pg_name (i := 5) sc_law_hop.nd rfl (Or.inl rfl)) (fun _ _ _ _ _ => pts_nil) (fun _ _ _ _ _ => by exact (pe_tup (pa_cons (pe_op op_sub (pe_op op_mul pe_int (pv 7)) pe_int) pa_nil)))))) 
    (pss_cons (ps_set (i := 16) sc_law_hop.nd rfl (.inl rfl) (pe_op op_add (pe_op op_mul pe_int (pe_callB call_len_seq (by rfl) T0.len PySem.boot_len (pa_cons (pv 4) pa_nil))) pe_int)) 
    (pss_cons (ps_set (i := 17) sc_law_hop.nd rfl (.inl rfl) (pe_m0 (pv 3) SC.cl MTwin hr (by decide))) 
    (pss_cons (ps_if (pt_cmpR op_notN (pe_m1 (pv 17) SC.cl MPush hr (by decide) (pa_cons (pv 16) (pa_cons (pv 13) (pa_cons (pe_callTy call_tuple_of (by rfl) T0.tuple PyProof.Rows.boot_tuple (pa_cons (pv 15) pa_nil)) pa_nil)))) pe_non (nomark _)) 
      (pss_one (ps_ret pe_bl)) pss_nil) 
    (pss_cons (ps_set (i := 18) sc_law_hop.nd rfl (.inl rfl) (pe_m0 (pv 17) SC.cl MOrder hr (by decide))) 
    (pss_cons (ps_set (i := 19) sc_law_hop.nd rfl (.inl rfl) (pe_c0 GSlots hr (by decide) rfl (pa_cons (pv 6) (pa_cons (pv 14) (pa_cons (pe_op op_mul pe_int (pv 7)) (pa_cons (pe_op op_mul pe_int (pv 8)) (pa_cons (pv 16) pa_nil))))))) 
    (pss_cons (ps_setLc (i := 20) (own := [("k", 5)]) (g := gName 5) (by rfl) sc_law_hop.nd rfl (by rfl) (sw_true rfl rfl rfl (by decide +kernel)) (pi_range2 (by rfl) T0.range (pa_cons (pe_op op_add (pv 7) pe_int) (pa_cons (pv 8) pa_nil))) (blkOk_by (own := [("k", 5)]) (N := N_law_hop) (sc := defScope s_law_hop) (by decide +kernel)) (fun _ _ _ _ _ => pg_name (i := 5) sc_law_hop.nd rfl (Or.inl rfl)) (fun _ _ _ _ _ => by exact (pts_one (pt_cmpR (op_in_seqK (K := K) (by exact rfl)) (pe_ix (show IxR _ (rIxL K) from ix_list) (pv 4) (pv 5) (fun _ _ => rfl)) (pv 12) (by rfl)))) (fun _ _ _ _ _ => by exact (pv 5))) 
    (pss_cons (ps_if (PW.pt (pw_or (pt_cmpR (op_neD hr.units) (pv 18) (pv 19) (nomark _)) (pw_or1 (pt_cmpR op_ne (pe_c0 GTurned hr (by decide) rfl (pa_cons (pv 6) (pa_cons (pv 18) (pa_cons (pe_op op_mul pe_int (pv 7)) (pa_cons (pe_op op_mul pe_int (pv 8)) pa_nil))))) (pe_cmpR op_eq (pe_callB call_len_seq (by rfl) T0.len PySem.boot_len (pa_cons (pv 20) pa_nil)) pe_int (nomark _)) (nomark _))))) 
      (pss_one (ps_ret pe_bl)) pss_nil) 
    (pss_cons (ps_if (PW.pt (pw_or (pt_cmpR op_isnot_bl (pe_c0 GAsk hr (by decide) rfl (pa_cons pe_bl (pa_cons (pv 1) (pa_cons (pv 13) (pa_cons (pv 9) (pa_cons (pv 10) pa_nil)))))) pe_bl (nomark _)) (pw_or1 (pt_cmpR op_isnot_bl (pe_c0 GAsk hr (by decide) rfl (pa_cons pe_bl (pa_cons (pv 1) (pa_cons (pv 13) (pa_cons (pv 10) (pa_cons (pv 9) pa_nil)))))) pe_bl (nomark _))))) 
      (pss_one (ps_ret pe_bl)) pss_nil) 
    (pss_one (ps_ret (pe_cmpR (op_eqD hr.units) (pe_m0 (pv 3) SC.cl MOrder hr (by decide)) (pv 6) (nomark _))))))))))))))))))))))), ?_⟩
  have hqN : ((List.range N).map fun k => V.int (qn k : Nat)).length = N := by rw [List.length_map, List.length_range]
  -- the order
  refine q_asgTF (xs := (List.range N).map fun k => V.int (g3 k)) (el_is (el_lcR1 (n := (N : Nat)) (fun _ => true) (fun k => V.int (g3 k)) (ea_cons (ev_is (ev_len (ev_var rfl) (SqL.of hQ.l)) (by rw [hqN])) ea_nil) (by omega) (fun _ => rfl) (fun _ _ _ _ => et_yes) (fun i H1 _ hi _ => ev_is (ev_op (ev_var rfl) ev_c (rv_I (.inl (by omega)))) (by rw [g3_mul]))) (by rw [given_all]; rfl)) fun po H1 ob hpo0 e1 hpo hob1 hob2 => ?_
  have fz1 : FrzT H1 po ((List.range N).map g3) := ⟨ob, by rw [hpo, List.map_map]; rfl, hob1, hob2⟩
  have r1 : Rn K tp ca H H1 := Rn.of j.t e1
  have hQ1 := hQ.rn r1 nq
  have en : (((((List.range N).map fun k => V.int (qn k : Nat)).length : Nat) : Int)) - 1 = ((N - 1 : Nat) : Int) := by rw [hqN]; omega
  refine ⟨_, rfl, _, rfl, ql, _, rfl, .inl (SqL.of hQ1.l), _, _, rfl, rfl, tp, ca, N - 1, congrArg (fun z => [V.ref tp, V.int z]) en, r1.b, by omega, by omega, fun H2 e he r2 => ?_⟩
  refine ⟨_, rfl, _, _, rfl, rfl, ?_⟩
  refine ⟨fun σ H' => ∃ l : Nat, σ = [some (.ref tp), some fv, some (.ref pl), some (.ref a), some (.ref ql), none, some (.ref po), some (.int (e : Nat)), some (.int (l : Nat)), none, none, none, none, none, none, none, none, none, none, none, none] ∧ Rn K tp ca H1 H' ∧ e < l ∧ l < N, ?_, ?_⟩
  · refine ⟨_, rfl, tp, ca, 3, rfl, r2.b, by decide, by decide, fun H3 z hz r3 => ⟨rfl, _, rfl, ite2 (fun _ => ?_) fun _ => ?_⟩⟩
    · have hQ3 := hQ1.rn (r2.trans r3) nq
      have en3 : (((((List.range N).map fun k => V.int (qn k : Nat)).length : Nat) : Int)) - (((e : Nat) : Int) + 1) = ((N - (e + 1) : Nat) : Int) := by rw [hqN]; omega
      refine ⟨_, rfl, _, rfl, _, rfl, ql, _, rfl, .inl (SqL.of hQ3.l), _, rfl, _, _, rfl, rfl, tp, ca, N - (e + 1), congrArg (fun z => [V.ref tp, V.int z]) en3, r3.b, by omega, by omega, fun H4 d hd r4 => ?_⟩
      refine ⟨_, _, rfl, rfl, e + 1 + d, ?_, r2.trans (r3.trans r4), by omega, by omega⟩
      show [_, _, _, _, _, _, _, _, some (V.int (((e : Nat) : Int) + 1 + ((d : Nat) : Int))), _, _, _, _, _, _, _, _, _, _, _, _] = _
      rw [show ((e : Nat) : Int) + 1 + ((d : Nat) : Int) = ((e + 1 + d : Nat) : Int) by omega]
    · exact ⟨e + 1, rfl, r2.trans r3, by omega, by omega⟩
  rintro σ H5 ⟨l, rfl, r5, hel, hlN⟩
  have j5 := j.rn (r1.trans r5)
  have hQ5 := hQ1.rn r5 nq
  have fz5 := fz1.rn r5
  have heN : e < N := by omega
  have cx5 := j5.cx
  obtain ⟨ps, hps, hpn, hat⟩ := cx5.paths.at
  have hp1 := hQ.p e heN
  have hp2 := hQ.p l hlN
  obtain ⟨b1, hb1, hs1⟩ := hat _ _ hp1
  obtain ⟨b2, hb2, hs2⟩ := hat _ _ hp2
  have m1 := List.mem_of_getElem? hp1
  have m2 := List.mem_of_getElem? hp2
  have hht := j.cx.h
  have len : ∀ {i : Nat} {p : Ad}, (lv T)[i]? = some p → p.length ≤ 11 := fun h => by have := ht_path (List.mem_of_getElem? h); omega
  refine ⟨_, rfl, _, rfl, ql, _, _, _, rfl, rfl, SqL.of hQ5.l, hQ5.at heN, _, rfl, _, rfl, ql, _, _, _, rfl, rfl, SqL.of hQ5.l, hQ5.at hlN, (by show 2 ≤ sizeLine; decide), fun t1 ht1 => ?_⟩
  refine ⟨t1, _, rfl, SqT.of upd_same, rfl, _, _, rfl, _, _, rfl, rfl, ?_⟩
  have e6 : Ex H5 (upd H5 t1 (.tup [.int (qn e : Nat), .int (qn l : Nat)])) := Ex.new ht1
  revert e6
  generalize upd H5 t1 (.tup [.int (qn e : Nat), .int (qn l : Nat)]) = H6
  intro e6
  refine ⟨_, rfl, _, rfl, pl, _, _, _, rfl, rfl, SqL.of (e6 _ _ hps), atI_nat hb1, _, rfl, _, rfl, pl, _, _, _, rfl, rfl, SqL.of (e6 _ _ hps), atI_nat hb2, b1, b2, pa e, pa l, rfl, ex_t e6 hs1, ex_t e6 hs2, by have := len hp1; omega, by have := len hp2; omega, ?_⟩
  refine ⟨_, rfl, _, rfl, rfl, _, rfl, ?_⟩
  by_cases eq : qn e = qn l
  · rw [deqT eq]
    exact iteT (q _ ((r1.trans r5).same e6))
  rw [deqF eq]
  refine iteF ?_
  have pne : pa e ≠ pa l := fun z => eq (by
    rw [z] at hp1
    exact lv_i hp1 hp2)
  obtain ⟨ml1, ml2⟩ := lcp_leaf m1 m2 pne
  generalize hM : lcp (pa e) (pa l) = M at ml1 ml2
  generalize hC : (pa e).take (M + 1) = c
  have hc1 : c <+: pa e := by rw [← hC]; exact List.take_prefix ..
  have hcl : ¬ c <+: pa l := fun z => by
    rw [← hC] at z
    have := (lcp_pre (pa e) (pa l) (M + 1) ml1).mp z
    omega
  have hclen : c.length = M + 1 := by rw [← hC, List.length_take]; omega
  have hlf := cx5.lf
  -- the queues beneath the child of the meet
  refine q_asgL (xs := (nearL T c).map V.int) (el_is (el_lcR1 (n := (T.lf : Nat)) (fun i => decide (c <+: (lv T).getD i [])) (fun i => V.int (i : Nat)) (ea_cons (ev_is (ev_len (ev_var rfl) (SqL.of (e6 _ _ hps))) (by rw [hpn])) ea_nil) (by omega) (fun _ => rfl) (fun i H1 e7 hi => ?_) (fun i H1 _ hi _ => ev_var rfl)) (by unfold given nearL; rw [List.map_map]; rfl)) fun np H7 hnp e7 h7 => ?_
  · obtain ⟨p, hp⟩ := lv_get (show i < T.lf by omega)
    obtain ⟨b, hb, hs⟩ := hat _ _ hp
    have hg : (lv T).getD i [] = p := by rw [List.getD_eq_getElem?_getD, hp]; rfl
    rw [hg]
    have e67 := e6.trans e7
    refine et_is (et_or (et_test (ev_op (ev_var rfl) (ev_var rfl) (rv_eq rfl))) fun _ => et_test (ev_op (ev_call (vs := [.ref b, .ref b1]) (z := .int (lcp p (pa e) : Nat)) (ea_cons (ev_op (ev_var rfl) (ev_var rfl) (rv_ixL (SqL.of (e67 _ _ hps)) (atI_nat hb))) (ea_cons (ev_op (ev_var rfl) (ev_var rfl) (rv_ixL (SqL.of (e67 _ _ hps)) (atI_nat hb1))) ea_nil)) fun H8 e8 Q8 q8 E8 => ⟨b, b1, p, pa e, rfl, ex_t (e67.trans e8) hs, ex_t (e67.trans e8) hs1, by have := len hp; omega, by have := len hp1; omega, q8 H8 (Ex.refl H8)⟩) (ev_var rfl) rv_I0)) ?_
    rw [← hC, near_test (by omega)]
    have d1 : decide (V.int ((i : Nat) : Int) = V.int ((qn e : Nat) : Int)) = decide (p = pa e) := decide_eq_decide.mpr ⟨fun z => by
      injection z with z
      have : i = qn e := by omega
      subst this
      exact lv_inj hp hp1, fun z => by
      subst z
      rw [lv_i hp hp1]⟩
    have d2 : decide (((M : Nat) : Int) < ((lcp p (pa e) : Nat) : Int)) = decide (M < lcp p (pa e)) := decide_eq_decide.mpr (by omega)
    rw [← d1, ← d2]
  have hnl : 0 < (nearL T c).length := List.length_pos_of_mem ((near_mem hp1).mpr hc1)
  have hnl2 : (nearL T c).length ≤ 20 := by
    unfold nearL
    rw [List.length_map]
    have := List.length_filter_le (fun i => decide (c <+: (lv T).getD i [])) (List.range T.lf)
    rw [List.length_range] at this
    omega
  have r7 : Rn K tp ca H1 H7 := r5.same (e6.trans e7)
  refine ⟨_, rfl, _, rfl, _, rfl, np, _, rfl, .inl (SqL.of h7), tp, ca, (nearL T c).length, congrArg (fun z : Nat => [V.ref tp, V.int (z : Nat)]) (List.length_map ..), r7.b, hnl, by omega, fun H8 d hd r8 => ?_⟩
  obtain ⟨qi, pq, hq1, hq2, hq3⟩ := near_get hd
  have nnp : np ≠ tp := (r5.same e6).b.new hnp
  have h8 := r8.at h7 nnp
  refine ⟨np, _, _, _, rfl, rfl, SqL.of h8, atI_nat (by rw [List.getElem?_map, hq1]; rfl), ?_⟩
  have j8 := j5.rn (((Rn.of j5.t (e6.trans e7))).trans r8)
  have r58 := (Rn.of j5.t (e6.trans e7)).trans r8
  have hQ8 := hQ5.rn r58 nq
  have fz8 := fz5.rn r58
  obtain ⟨ps8, hps8, hpn8, hat8⟩ := j8.cx.paths.at
  obtain ⟨bq, hbq, hsq⟩ := hat8 _ _ hq2
  have mq := List.mem_of_getElem? hq2
  -- the packets of the side
  have inB : ∀ k, k < N → (inV (V.int (qn k : Nat)) ((nearL T c).map V.int)) = nearB pa c k := fun k hk => by
    rw [in_ints]
    exact decide_eq_decide.mpr (near_mem (hQ.p k hk))
  refine q_asgL (xs := (((List.range N).filter (nearB pa c)).map g3).map V.int) (el_is (el_lcR1 (n := (N : Nat)) (nearB pa c) (fun k => V.int (g3 k)) (ea_cons (ev_is (ev_len (ev_var rfl) (SqL.of hQ8.l)) (by rw [hqN])) ea_nil) (by omega) (fun _ => rfl) (fun i H1 e9 hi => ?_) (fun i H1 _ hi _ => ev_is (ev_op ev_c (ev_var rfl) (rv_I (.inl (by omega)))) (by rw [g3_mul']))) (by unfold given; rw [List.map_map]; rfl)) fun sp H9 hsp e9 h9 => ?_
  · refine et_is (et_test (ev_op (ev_op (ev_var rfl) (ev_var rfl) (rv_ixL (SqL.of (e9 _ _ hQ8.l)) (hQ8.at (show i < N by omega)))) (ev_var rfl) (rv_isL (SqL.of (e9 _ _ h8)) rfl (flat_ints _)))) (inB i (by omega))
  -- the ranks
  have hpl := len hq2
  have hpM : M + 1 ≤ pq.length := by have := hq3.length_le; omega
  refine q_asg0 (op0 ?_)
  refine lc_tups (n := ((M + 1 : Nat) : Int)) (c := [V.int (2 * ((l : Nat) : Int) + 1)]) (ea_cons (ev_is (ev_op (ev_var rfl) ev_c rv_I0) (by congr 1)) ea_nil) (by omega) (fun _ => rfl) (fun i H1 _ hi => eu_tup (ea_cons (ev_op (ev_op ev_c (ev_var rfl) (rv_I (.inl (by omega)))) ev_c rv_I0) ea_nil) (by show 1 ≤ 100000; decide)) H9 (Ex.refl H9) _ fun p1 H10 as1 hp10 e10 h10 hl10 hx10 => ?_
  have e910 := e9.trans e10
  refine lc_tups (n := ((pq.length - M : Nat) : Int)) (c := [V.int (2 * ((e : Nat) : Int) - 1)]) (ea_cons (ev_is (ev_op (ev_lenT (ev_op (ev_var rfl) (ev_var rfl) (rv_ixL (SqL.of (e910 _ _ hps8)) (atI_nat hbq))) (ex_t e910 hsq)) (ev_var rfl) rv_I0) (by rw [intsN_len]; congr 1; omega)) ea_nil) (by omega) (fun _ => rfl) (fun i H1 _ hi => eu_tup (ea_cons (ev_op (ev_op ev_c (ev_var rfl) (rv_I (.inl (by omega)))) ev_c rv_I0) ea_nil) (by show 1 ≤ 100000; decide)) H10 (Ex.refl H10) _ fun p2 H11 as2 hp11 e11 h11 hl11 hx11 => ?_
  have hl10' : as1.length = M + 1 := by rw [hl10]; omega
  have hl11' : as2.length = pq.length - M := by rw [hl11]; omega
  refine ⟨p1, p2, _, _, rfl, rfl, e11 _ _ h10, h11, by rw [List.length_map, List.length_map, hl10', hl11']; have := sizeLine_eq; omega, fun rp hrp => ?_⟩
  have e12 : Ex H11 (upd H11 rp (.lst (as1.map V.ref ++ as2.map V.ref))) := Ex.new hrp
  have h12 : (upd H11 rp (.lst (as1.map V.ref ++ as2.map V.ref))) rp = some (.lst (as1.map V.ref ++ as2.map V.ref)) := upd_same
  revert e12 h12
  generalize upd H11 rp (.lst (as1.map V.ref ++ as2.map V.ref)) = H12
  intro e12 h12
  have e812 : Ex H8 H12 := e9.trans (e10.trans (e11.trans e12))
  refine q_asg (v := .int (g3 N + 1)) (ev_is (ev_op (ev_op ev_c (ev_len (ev_var rfl) (SqL.of (e812 _ _ hQ8.l))) (rv_I (.inl (by omega)))) ev_c rv_I0) (by rw [hqN, g3_mul'])) fun H13 e13 => ?_
  have e813 : Ex H8 H13 := e812.trans e13
  have j13 := j8.same e813
  have fz13 := fz8.same e813
  have hsp13 := (e10.trans (e11.trans (e12.trans e13))) _ _ h9
  have hrp13 := e13 _ _ h12
  have hx1 : ∀ x ∈ as1, H13 x = some (.tup ((rk1 (l + 1)).map V.int)) := fun x hx => by
    rw [(e11.trans (e12.trans e13)) _ _ (hx10 x hx)]
    unfold rk1
    rw [show (2 * (((l + 1 : Nat) : Int)) - 1) = 2 * ((l : Nat) : Int) + 1 by omega]
    rfl
  have hx2 : ∀ x ∈ as2, H13 x = some (.tup ((rk1 e).map V.int)) := fun x hx => (e12.trans e13) _ _ (hx11 x hx)
  -- the twin
  obtain ⟨dx, ob⟩ := j13.st.obj
  refine ⟨_, rfl, a, dx, _, rfl, ob, rfl, a, ta, la, sd, S, Ls, T, _, kv, rfl, j13.st, j13.ok, fun H14 a' ta' la' sd' Ls' kv' s14 st14 se14 kl14 new14 ha14 tn14 => ?_⟩
  obtain ⟨dx', ob'⟩ := st14.obj
  refine ⟨_, rfl, a', dx', _, rfl, ob', rfl, _, rfl, _, rfl, _, rfl, rp, _, rfl, .inl ⟨SqL.of (s14 _ _ hrp13), fun z hz => ?_⟩⟩
  have e15 : Ex H14 (upd H14 z (.tup (as1.map V.ref ++ as2.map V.ref))) := Ex.new hz
  have h15 : (upd H14 z (.tup (as1.map V.ref ++ as2.map V.ref))) z = some (.tup (as1.map V.ref ++ as2.map V.ref)) := upd_same
  revert e15 h15
  generalize upd H14 z (.tup (as1.map V.ref ++ as2.map V.ref)) = H15
  intro e15 h15
  have st15 := st14.same e15
  have nS' : ∀ y, H13 y ≠ none → y ∉ sd' :: Ls' := fun y hy z => hy (new14 y z)
  have nz : z ∉ sd' :: Ls' := fun h => st14.al z h hz
  have of15 : ∀ (as : List Addr) (ns : List Int), (∀ x ∈ as, H13 x = some (.tup (ns.map V.int))) → ∀ x ∈ as, offS (sd' :: Ls') H15 x = some (.tup (ns.map V.int)) := fun as ns h x hx => by
    have h1 := h x hx
    rw [offS_ne (nS' x (by rw [h1]; exact fun z => nomatch z))]
    exact e15 _ _ (s14 _ _ h1)
  have hdp : Dp K (offS (sd' :: Ls') H15) (.ref z) (.tuple ((List.replicate (M + 1) (rk1 (l + 1)) ++ List.replicate (pq.length - M) (rk1 e)).map intsD)) := by
    refine .tup (SqT.of (by rw [offS_ne nz]; exact h15)) ?_
    rw [List.map_append]
    have d1 := dp_refs (K := K) as1 (of15 as1 _ hx1)
    have d2 := dp_refs (K := K) as2 (of15 as2 _ hx2)
    rw [hl10'] at d1
    rw [hl11'] at d2
    exact dps_app d1 d2
  have hfr : ∀ p ∈ lv T, (g3 N + 1) ∉ its (L0 pa N p) := fun p hp z => by
    obtain ⟨en, hen, ez⟩ := List.mem_map.mp z
    obtain ⟨k, hk, rfl⟩ := List.mem_map.mp hen
    obtain ⟨hk1, hk2⟩ := List.mem_filter.mp hk
    have := leaf_pre (List.mem_of_getElem? (hQ.p k (List.mem_range.mp hk1))) hp (of_decide_eq_true hk2)
    have e2 : (entQ pa p k).2 = g3 k := itm_full this
    rw [e2] at ez
    unfold g3 at ez
    omega
  have habs : valV kv' (Sum.inl (g3 N + 1) : Key) = none := by
    cases e : valV kv' (Sum.inl (g3 N + 1) : Key) with
    | none => rfl
    | some v =>
      obtain ⟨n', i, p, z1, z2, z3, z4⟩ := se14.fr _ _ e
      injection z1 with z1
      subst z1
      exact absurd z4 (hfr p (List.mem_of_getElem? z3))
  have hg0 : 0 ≤ g3 N + 1 ∧ g3 N + 1 < packB := by
    unfold g3 packB
    omega
  have hrl : (List.replicate (M + 1) (rk1 (l + 1)) ++ List.replicate (pq.length - M) (rk1 e)).length = pq.length + 1 := by
    rw [List.length_append, List.length_replicate, List.length_replicate]
    omega
  refine ⟨a', ta', la', sd', sd' :: Ls', Ls', T, _, kv', g3 N + 1, qi, pq, .ref z, _, rfl, st15, j.ht20, habs, hg0.1, hg0.2, hq2, hdp, hrl, (fun r hr => ?_), j.sz', kl14, fun H16 g16 st16 => ?_⟩
  · rcases List.mem_append.mp hr with hr | hr
    · rw [(List.mem_replicate.mp hr).2]
      exact rk1_rank (by omega)
    · rw [(List.mem_replicate.mp hr).2]
      exact rk1_rank (by omega)
  refine ⟨rfl, _, rfl, iteF ?_⟩
  have st0 : ∀ y o, H13 y = some o → H16 y = some o := fun y o h => g16.at (e15 _ _ (s14 _ _ h)) (nS' y (by rw [h]; exact fun z => nomatch z))
  have e1316 : Ex H13 H16 := st0
  have hpaN : ∀ k, k < N → pa k ∈ lv T := fun k hk => List.mem_of_getElem? (hQ.p k hk)
  obtain ⟨wq, hw1, hw2⟩ := lv_lf mq
  have hord : ord T (pshL pq (List.replicate (M + 1) (rk1 (l + 1)) ++ List.replicate (pq.length - M) (rk1 e)) (g3 N + 1) (L0 pa N)) = fillL ((ssQ pa N (l + 1) []).map (slH pa c)) ((ssQ pa N e c).map (valG g3 (g3 N + 1))) := by
    have := ord_above (T := T) (pa := pa) (N := N) (m := M) (e := e) (l := l) (pq := pq) (rs := List.replicate (M + 1) (rk1 (l + 1)) ++ List.replicate (pq.length - M) (rk1 e)) (n := g3 N + 1) hpaN mq (by omega) (fun i h1 h2 => ?_) (fun i h1 => ?_) pq [] T rfl (Nat.zero_le _) (sub_nil T)
    · rw [take_pre hq3 hclen] at this
      exact this
    · rw [List.getD_eq_getElem?_getD, List.getElem?_append_right (by rw [List.length_replicate]; omega), List.length_replicate, List.getElem?_replicate_of_lt (by omega)]
      rfl
    · rw [List.getD_eq_getElem?_getD, List.getElem?_append_left (by rw [List.length_replicate]; omega), List.getElem?_replicate_of_lt (by omega)]
      rfl
  obtain ⟨dx16, ob16⟩ := st16.obj
  refine ⟨_, rfl, a', dx16, _, rfl, ob16, rfl, a', ta', la', sd', sd' :: Ls', Ls', T, _, _, rfl, st16, j.ht20, pshL_con j.con hw1 hw2, (fun y => by have := pshL_le pq y (List.replicate (M + 1) (rk1 (l + 1)) ++ List.replicate (pq.length - M) (rk1 e)) (g3 N + 1) (L0 pa N); have := j.sz y; omega), fun H17 tl s17 htl fz17 => ?_⟩
  rw [hord] at fz17
  have e1317 : Ex H13 H17 := e1316.trans s17
  have hm : ∀ k, g3 k ∈ ((List.range N).filter (nearB pa c)).map g3 ↔ k < N ∧ c <+: pa k := fun k => by
    rw [List.mem_map]
    constructor
    · rintro ⟨k', hk', ek⟩
      have := g3_inj ek
      subst this
      obtain ⟨h1, h2⟩ := List.mem_filter.mp hk'
      exact ⟨List.mem_range.mp h1, of_decide_eq_true h2⟩
    · rintro ⟨h1, h2⟩
      exact ⟨k, List.mem_filter.mpr ⟨List.mem_range.mpr h1, decide_eq_true h2⟩, rfl⟩
  -- what is due
  refine ⟨_, rfl, _, rfl, _, rfl, _, _, rfl, rfl, .inl (by omega), _, rfl, _, _, rfl, rfl, .inl (by omega), _, rfl, po, sp, (List.range N).map g3, ((List.range N).filter (nearB pa c)).map g3, g3 e, g3 l, g3 N + 1, ?_, (fz13.same e1317).sqt, SqL.of (e1317 _ _ hsp13), by rw [List.length_map, List.length_range]; omega, (fun x hx => ?_), hop_enough heN hlN, fun H18 du s18 hdu0 hdu => ?_⟩
  · show [V.ref po, V.ref sp, V.int (3 * ((e : Nat) : Int)), V.int (3 * ((l : Nat) : Int)), V.int (g3 N + 1)] = _
    rw [g3_mul', g3_mul']
  · obtain ⟨k, _, rfl⟩ := List.mem_map.mp hx
    unfold g3
    omega
  rw [hop_slots hm hlN, hop_rows hm heN hc1] at hdu
  have e1318 := e1317.trans s18
  have fz18 := fz17.same s18
  have hQ13 : H13 ql = some (.lst ((List.range N).map fun k => V.int (qn k : Nat))) := e813 _ _ hQ8.l
  have hnp13 : H13 np = some (.lst ((nearL T c).map V.int)) := e813 _ _ h8
  -- who stands between
  refine q_asgL (xs := given (((l : Nat) : Int) - (((e : Nat) : Int) + 1)).toNat (fun i => nearB pa c (e + 1 + i)) (fun i => V.int ((e + 1 + i : Nat) : Int))) (el_lcR2 (lo := ((e : Nat) : Int) + 1) (n := ((l : Nat) : Int)) _ _ (ea_cons (ev_op (ev_var rfl) ev_c rv_I0) (ea_cons (ev_var rfl) ea_nil)) (by omega) (fun _ => rfl) (fun i H1 e19 hi => ?_) (fun i H1 _ hi _ => ev_is (ev_var rfl) (by congr 1))) fun bt H19 hbt e19 hbt19 => ?_
  · have hk : e + 1 + i < N := by omega
    have hat1 := hQ.at hk
    rw [show (((e + 1 + i : Nat)) : Int) = ((e : Nat) : Int) + 1 + (i : Nat) by omega] at hat1
    exact et_is (et_test (ev_op (ev_op (ev_var rfl) (ev_var rfl) (rv_ixL (SqL.of ((e1318.trans e19) _ _ hQ13)) hat1)) (ev_var rfl) (rv_isL (SqL.of ((e1318.trans e19) _ _ hnp13)) rfl (flat_ints _)))) (inB _ hk)
  obtain ⟨m, hm1, hm2, hm3⟩ := hop_places (pa := pa) (c := c) (N := N) (z := g3 N + 1) hlN hel hc1 hcl
  have hcn := L0_con (T := T) (pa := pa) hpaN
  have hnd : (fillL ((ssQ pa N (l + 1) []).map (slH pa c)) ((ssQ pa N e c).map (valG g3 (g3 N + 1)))).Nodup := by
    rw [← hord]
    refine (psh_perm pq T wq (L0 pa N) _ (g3 N + 1) hcn.1 hw1 hw2 hrl).nodup_iff.mpr ?_
    rw [hcn.2, List.nodup_cons]
    refine ⟨fun z => ?_, g3_nodup N⟩
    obtain ⟨k, _, ek⟩ := List.mem_map.mp z
    unfold g3 at ek
    omega
  have e1319 := e1318.trans e19
  have fz19 := fz18.same e19
  have fzo19 := fz13.same e1319
  have g3at : ∀ k, k < N → ((List.range N).map g3)[k]? = some (g3 k) := fun k hk => by rw [List.getElem?_map, List.getElem?_range hk]; rfl
  have hbl : ((given (((l : Nat) : Int) - (((e : Nat) : Int) + 1)).toNat (fun i => nearB pa c (e + 1 + i)) (fun i => V.int ((e + 1 + i : Nat) : Int))).length = 0) ↔ ¬ m < l := by
    rw [hm3]
    unfold given
    rw [List.length_map, List.length_eq_zero_iff, List.filter_eq_nil_iff]
    constructor
    · rintro h ⟨k, h1, h2, h3⟩
      refine h (k - (e + 1)) (List.mem_range.mpr (by omega)) ?_
      show decide (c <+: pa (e + 1 + (k - (e + 1)))) = true
      rw [show e + 1 + (k - (e + 1)) = k by omega]
      exact decide_eq_true h3
    · intro h i hi z
      have := List.mem_range.mp hi
      exact h ⟨e + 1 + i, by omega, by omega, of_decide_eq_true z⟩
  refine q_when (b := false) (et_is (et_or (et_test (ev_op (ev_var rfl) (ev_var rfl) (rv_neD fz19.dp (dp_intT (SqT.of (e19 _ _ hdu))) (shaped_ints _) (shaped_ints _)))) fun _ => et_test (ev_op (ev_call (vs := [.ref po, .ref tl, .int (g3 e), .int (g3 l)]) (z := .bl (decide (decide (e < l) ≠ decide (m < l)))) (ea_cons (ev_var rfl) (ea_cons (ev_var rfl) (ea_cons (ev_is (ev_op ev_c (ev_var rfl) (rv_I (.inl (by omega)))) (by rw [g3_mul'])) (ea_cons (ev_is (ev_op ev_c (ev_var rfl) (rv_I (.inl (by omega)))) (by rw [g3_mul'])) ea_nil)))) fun H20 e20 Q20 q20 E20 => ⟨po, tl, g3 e, g3 l, _, _, e, l, m, l, rfl, fzo19.same e20, fz19.same e20, g3_nodup N, hnd, g3at e heN, g3at l hlN, hm1, hm2, q20 H20 (Ex.refl H20)⟩) (ev_op (ev_len (ev_var rfl) (SqL.of hbt19)) ev_c (rv_eq rfl)) (rv_ne rfl))) ?_) (fun z => nomatch z) fun _ H20 e20 => ?_
  · rw [eqv_ints, decide_eq_true rfl, Bool.not_true, Bool.false_or, decide_eq_true hel]
    have hd : decide (V.int (((given (((l : Nat) : Int) - (((e : Nat) : Int) + 1)).toNat (fun i => nearB pa c (e + 1 + i)) (fun i => V.int ((e + 1 + i : Nat) : Int))).length : Nat) : Int) = V.int 0) = decide (¬ m < l) := decide_eq_decide.mpr ⟨fun z => hbl.mp (by injection z with z; exact Int.ofNat_inj.mp z), fun z => by rw [hbl.mpr z]; rfl⟩
    rw [hd]
    by_cases y : m < l <;> simp [y]
  have e1320 := e1319.trans e20
  have mb : mayB pq (pa e) (pa l) = true := by
    unfold mayB
    rw [decide_eq_false pne, hM, hC, decide_eq_true hq3]
    rfl
  have ask : ∀ (b : Bool) (i1 i2 : Nat) (p1 p2 : Ad), (lv T)[i1]? = some p1 → (lv T)[i2]? = some p2 → mayB pq p1 p2 = true → SpV (spAsk K C U) [.bl b, fv, .int (qi : Nat), .int (i1 : Nat), .int (i2 : Nat)] H20 (.bl true) := fun b i1 i2 p1 p2 hi1 hi2 hmb H21 e21 Q21 q21 E21 => by
    have cx := (j13.same (e1320.trans e21)).cx
    have l0 : _ < T.lf := (List.getElem?_eq_some_iff.mp hq2).1
    have l1 : _ < T.lf := (List.getElem?_eq_some_iff.mp hi1).1
    have l2 : _ < T.lf := (List.getElem?_eq_some_iff.mp hi2).1
    refine ⟨b, fv, _, _, _, T, some (qi : Nat), some (i1 : Nat), some (i2 : Nat), rfl, cx.form, cx.z, (fun _ => ⟨by have := cx.h; omega, by have := cx.n; omega⟩), rfl, rfl, rfl, (fun g => by rw [cx.g] at g; exact nomatch g), (fun _ g => by rw [below_lt l0] at g; exact nomatch g), (fun _ _ g => by rw [below_lt l1] at g; exact nomatch g), (fun _ _ _ g => by rw [below_lt l2] at g; exact nomatch g), fun _ i' j' k' p' q1' q2' x1 x2 x3 y1 y2 y3 H2 s2 => ?_⟩
    have x1 : i' = qi := by injection x1 with x1; omega
    have x2 : j' = i1 := by injection x2 with x2; omega
    have x3 : k' = i2 := by injection x3 with x3; omega
    subst x1 x2 x3
    obtain rfl := lv_inj hq2 y1
    obtain rfl := lv_inj hi1 y2
    obtain rfl := lv_inj hi2 y3
    rw [hmb]
    exact q21 H2 s2
  refine q_when (b := false) (et_is (et_or (et_test (ev_op (ev_call (vs := [.bl false, fv, .int (qi : Nat), .int (qn e : Nat), .int (qn l : Nat)]) (z := .bl true) (ea_cons ev_c (ea_cons (ev_var rfl) (ea_cons (ev_var rfl) (ea_cons (ev_var rfl) (ea_cons (ev_var rfl) ea_nil))))) (ask false _ _ _ _ hp1 hp2 mb)) ev_c rv_isnot_bl)) fun _ => et_test (ev_op (ev_call (vs := [.bl true, fv, .int (qi : Nat), .int (qn l : Nat), .int (qn e : Nat)]) (z := .bl true) (ea_cons ev_c (ea_cons (ev_var rfl) (ea_cons (ev_var rfl) (ea_cons (ev_var rfl) (ea_cons (ev_var rfl) ea_nil))))) (ask true _ _ _ _ hp2 hp1 (by rw [may_comm]; exact mb))) ev_c rv_isnot_bl)) rfl) (fun z => nomatch z) fun _ H21 e21 => ?_
  have e1321 := e1320.trans e21
  have j21 := j13.same e1321
  obtain ⟨dx21, ob21⟩ := j21.st.obj
  refine ⟨_, rfl, a, dx21, _, rfl, ob21, rfl, a, ta, la, sd, S, Ls, T, _, kv, rfl, j21.st, j.ht20, j.con, j.sz', fun H22 p22 s22 hp22 fz22 => ?_⟩
  rw [hcn.2] at fz22
  refine ⟨_, rfl, intsD _, intsD _, fz22.dp, ((fz13.same e1321).same s22).dp, shaped_ints _, shaped_ints _, ?_⟩
  rw [eqv_ints, decide_eq_true rfl]
  exact q _ ((((r1.trans r5).trans r58).same e813).same (e1321.trans s22))
end
end K27
set_option Elab.async false
set_option linter.all false
set_option maxRecDepth 100000
set_option maxHeartbeats 8000000
namespace K27
open PySem PySem.Spec PyProof.Rows L2 Evl
open Dt (sub sub_nil sub_app sub_one sub_pre lcp lcp_le lcp_pre lv ad sub_ad isLf isLf_o idx_lt ad_len idx_of)
/-! ### _law_hops -/
theorem seat_absent {T : Dt} {L : Lns} {kv : List (Key × V)} (s : Seat T L kv) {n : Int} (h : ∀ p ∈ lv T, n ∉ its (L p)) : valV kv (Sum.inl n : Key) = none := by
  cases e : valV kv (Sum.inl n : Key) with
  | none => rfl
  | some v =>
    obtain ⟨n', i, p, z1, z2, z3, z4⟩ := s.fr _ _ e
    injection z1 with z1
    subst z1
    exact absurd z4 (h p (List.mem_of_getElem? z3))
theorem L0_its {T : Dt} {pa : Nat → Ad} {N : Nat} (h : ∀ k, k < N → pa k ∈ lv T) {p : Ad} (hp : p ∈ lv T) {x : Int} (hx : x ∈ its (L0 pa N p)) : ∃ k, k < N ∧ x = g3 k := by
  obtain ⟨en, hen, ez⟩ := List.mem_map.mp hx
  obtain ⟨k, hk, rfl⟩ := List.mem_map.mp hen
  obtain ⟨hk1, hk2⟩ := List.mem_filter.mp hk
  have hkN := List.mem_range.mp hk1
  have := leaf_pre (h k hkN) hp (of_decide_eq_true hk2)
  have e2 : (entQ pa p k).2 = g3 k := itm_full this
  exact ⟨k, hkN, by rw [← ez, e2]⟩
/-- a standing that is made -/
theorem js_made {K : PySem.W.Frag} {C CS : Addr} {H H5 : Hp} {tp ca : Addr} {fv : V} {pl a dx ta la sd : Addr} {Ls : List Addr} {T : Dt} (t : Tape K H tp ca) (cx : CtxF K [tp] H fv pl T) (ha : H a = none) (hdx : H dx = none)
    (st : StE K C CS (sd :: Ls) H5 a ta la sd Ls T (fun _ => []) []) (tn : TN K (upd (upd H dx (.own a)) a (.ins CS dx [])) (offS (sd :: Ls) H5) C ta T ∧ (upd (upd H dx (.own a)) a (.ins CS dx [])) la = none) (fr : ∀ y o, (upd (upd H dx (.own a)) a (.ins CS dx [])) y = some o → y ≠ a → H5 y = some o) (fresh : ∀ y ∈ sd :: Ls, (upd (upd H dx (.own a)) a (.ins CS dx [])) y = none) :
    Same H H5 ∧ (∀ y ∈ sd :: Ls, H y = none) ∧ JS K C CS ((sd :: Ls) ++ [tp]) H5 tp ca fv pl a ta la sd Ls T (fun _ => []) [] 0 := by
  have s0 : Same H (upd (upd H dx (.own a)) a (.ins CS dx [])) := fun y o h => by rw [upd_ne (ne_of_none h ha), upd_ne (ne_of_none h hdx)]; exact h
  have s5 : Same H H5 := fun y o h => fr y o (s0 y o h) (ne_of_none h ha)
  have t5 := t.same s5
  obtain ⟨cs, i, b, s, hct, htp, hca, _⟩ := t
  have nSL : ∀ y o, H y = some o → y ∉ sd :: Ls := fun y o h z => by
    have := fresh y z
    rw [s0 _ _ h] at this
    exact nomatch this
  have stM := st.beside (M := [tp]) tn (fun y hy => by
    rw [List.mem_singleton.mp hy, s0 _ _ htp]
    exact fun z => nomatch z) (fun y hy => by
    rw [List.mem_singleton.mp hy]
    exact ⟨_, s5 _ _ htp⟩)
  have offG : Same (offS [tp] H) (offS ((sd :: Ls) ++ [tp]) H5) := fun y o h => by
    obtain ⟨h1, h2⟩ := offS_some h
    rw [offS_ne (fun z => ?_)]
    · exact s5 _ _ h2
    · rcases List.mem_append.mp z with z | z
      · exact nSL y _ h2 z
      · exact h1 z
  have nca : ca ∉ (sd :: Ls) ++ [tp] := fun z => by
    rcases List.mem_append.mp z with z | z
    · exact nSL ca _ hca z
    · exact hct (List.mem_singleton.mp z)
  refine ⟨s5, fun y hy => ?_, ⟨cx.p.same offG, same_dtv offG cx.v, cx.g, cx.h, cx.n, cx.z⟩, stM, ⟨(fun q w _ _ e h => nomatch h), fun q w j _ _ => rfl⟩, ⟨(fun n i p _ h => nomatch h), (fun k v h => nomatch h), fun p _ => List.Pairwise.nil⟩, t5, (fun q => Nat.le_refl _), Nat.le_refl _, by decide, List.mem_append_right _ (List.mem_singleton.mpr rfl), nSL tp _ htp, nca⟩
  cases e : H y with
  | none => rfl
  | some o => exact absurd hy (nSL y o e)
theorem cons0 {ta : TE} {tr : TA} {σ : L2.St} {H : Hp} {Q : List V → Hp → Prop} (h : ta σ H fun v H2 => tr σ H2 fun vs H3 => Q (v :: vs) H3) : tCons ta tr σ H Q := h
theorem cb0 {r : List V → Hp → VK → Prop} {ta : TA} {σ : L2.St} {H : Hp} {Q : VK} (h : ta σ H fun vs H2 => r vs H2 Q) : tCB r ta σ H Q := h
theorem call_len_seqK {X : Cx} {K : PySem.W.Frag} (e : X.K = K) : CallR X (.builtin "len") (fun xs H Q => ∃ p ys, xs = [.ref p] ∧ (SqL K H p ys ∨ SqT K H p ys) ∧ Q (.int ys.length) H) := by
  subst e
  exact call_len_seq
def spHops (K : PySem.W.Frag) : Sp := fun vs H Q _ => ∃ (tp ca pl : Addr) (fv : V) (T : Dt), vs = [.ref tp, fv, .ref pl] ∧ Tape K H tp ca ∧ CtxF K [tp] H fv pl T ∧ ∀ H', Rn K tp ca H H' → Q (.bl true) H'
/-- drawn numbers of queues in a list -/
theorem qs_of {H : Hp} {ql : Addr} {T : Dt} {ns : List Nat} (h : H ql = some (.lst (ns.map fun i => V.int (i : Nat)))) (hn : ∀ i ∈ ns, i < T.lf) : QsOK H ql T (fun k => (lv T).getD (ns.getD k 0) []) (fun k => ns.getD k 0) ns.length := by
  refine ⟨?_, fun k hk => ?_⟩
  · rw [h]
    congr 2
    refine List.ext_getElem? fun i => ?_
    rw [List.getElem?_map, List.getElem?_map]
    by_cases hi : i < ns.length
    · rw [List.getElem?_range hi, List.getElem?_eq_getElem hi]
      show some _ = some (V.int ((ns.getD i 0 : Nat) : Int))
      rw [List.getD_eq_getElem?_getD, List.getElem?_eq_getElem hi]
      rfl
    · rw [List.getElem?_eq_none (by omega), List.getElem?_eq_none (by rw [List.length_range]; omega)]
      rfl
  · have e1 : ns.getD k 0 = ns[k] := by rw [List.getD_eq_getElem?_getD, List.getElem?_eq_getElem hk]; rfl
    obtain ⟨p, hp⟩ := lv_get (hn _ (List.getElem_mem hk))
    show (lv T)[ns.getD k 0]? = some ((lv T).getD (ns.getD k 0) [])
    rw [e1, List.getD_eq_getElem?_getD, hp]
    rfl
section
variable {P : Program} {w : World} {K : PySem.W.Frag} {mg : Str → Option Value} {base : Heap} {C CS U fG fS : Addr} {fdS : FuncData}
theorem ok_hops (D : DefAt K mg "_law_hops" s_law_hops ["tape", "form", "paths"]) (T0 : Txt K mg) (SC : StCl K CS) (MStanding : Mk K CS fS) (gStanding : mg "Standing" = some (.ref CS)) (bStanding : Binds K fdS ["self", "form"] []) (FStanding : FnOk P w K mg base CX0 24 fS fdS ["self", "form"] (spMadeQ K C CS)) (GDraw : CalX P w K mg base CX0 1 "_law_draw" ["tape", "many"] (spDraw K))
    (GHop : CalX P w K mg base CX0 28 "_law_hop" ["tape", "form", "paths", "standing", "queues"] (spHop K C CS)) (MPush : MQ P w K mg base CS 5 "push" ["self", "number", "queue", "ranks"] (spPushQ K C CS)) (MOrder : MQ P w K mg base CS 21 "order" ["self"] (spOrdF K C CS)) :
    CalX P w K mg base CX0 29 "_law_hops" ["tape", "form", "paths"] (spHops K) := by
  refine D.ok sc_law_hops (fun vs H Q E h => ?_) (fun f cdv A outer s H vs Q E hr h => ?_)
  · obtain ⟨tp, ca, pl, fv, T, rfl, _⟩ := h
    rfl
  obtain ⟨tp, ca, pl, fv, T, rfl, hT, cx, q⟩ := h
  refine ⟨_, (pss_cons (ps_set (i := 3) sc_law_hops.nd rfl (.inl rfl) (pe_make MStanding FStanding (hr.mono (by decide)) rfl gStanding bStanding .nil pass0 (pa_cons (pv 1) pa_nil))) 
    (pss_cons (ps_setLc (i := 5) (own := [("k", 4)]) (g := gName 4) (tt := tYes) (by rfl) sc_law_hops.nd rfl (by rfl) (sw_true rfl rfl rfl (by decide +kernel)) (pi_range1 (by rfl) T0.range (pa_cons (pe_op op_add pe_int (pe_c0 GDraw hr (by decide) rfl (pa_cons (pv 0) (pa_cons pe_int pa_nil)))) pa_nil)) (blkOk_by (own := [("k", 4)]) (N := N_law_hops) (sc := defScope s_law_hops) (by decide +kernel)) (fun _ _ _ _ _ => pg_name (i := 4) sc_law_hops.nd rfl (Or.inl rfl)) (fun _ _ _ _ _ => pts_nil) (fun _ _ _ _ _ => by exact (pe_c0 GDraw hr (by decide) rfl (pa_cons (pv 0) (pa_cons (pe_callB (call_len_seqK (K := K) (by exact rfl)) (by rfl) T0.len PySem.boot_len (pa_cons (pv 2) pa_nil)) pa_nil))))) 
    (pss_cons (ps_for PassesOwn.never rfl (pi_range1 (by rfl) T0.range (pa_cons (pe_callB call_len_seq (by rfl) T0.len PySem.boot_len (pa_cons (pv 5) pa_nil)) pa_nil)) (pg_name (i := 4) sc_law_hops.nd rfl (Or.inr rfl)) 
      (pss_one (ps_expr (pe_m1 (pv 3) SC.cl MPush hr (by decide) (pa_cons (pe_op op_mul pe_int (pv 4)) (pa_cons (pe_ix ix_list (pv 5) (pv 4) (fun _ _ => rfl)) (pa_cons (pe_callTy call_tuple_of (by rfl) T0.tuple PyProof.Rows.boot_tuple (pa_cons (pe_lc (own := [("turn", 6)]) (g := gName 6) (tt := tYes) (by rfl) sc_law_hops.nd (pi_range1 (by rfl) T0.range (pa_cons (pe_op op_add (pe_callB call_len_seq (by rfl) T0.len PySem.boot_len (pa_cons (pe_ix ix_list (pv 2) (pe_ix ix_list (pv 5) (pv 4) (fun _ _ => rfl)) (fun _ _ => rfl)) pa_nil)) pe_int) pa_nil)) (blkOk_by (own := [("turn", 6)]) (N := N_law_hops) (sc := defScope s_law_hops) (by decide +kernel)) (fun _ _ _ _ _ => pg_name (i := 6) sc_law_hops.nd rfl (Or.inl rfl)) (fun _ _ _ _ _ => pts_nil) (fun _ _ _ _ _ => by exact (pe_tup (pa_cons (pe_op op_mul pe_int (pv 4)) pa_nil)))) pa_nil)) pa_nil))))))) 
    (pss_cons (ps_if (pt_cmpR (op_neD hr.units) (pe_m0 (pv 3) SC.cl MOrder hr (by decide)) (pe_callTy call_tuple_of (by rfl) T0.tuple PyProof.Rows.boot_tuple (pa_cons (pe_lc (own := [("k", 4)]) (g := gName 4) (tt := tYes) (by rfl) sc_law_hops.nd (pi_range1 (by rfl) T0.range (pa_cons (pe_callB call_len_seq (by rfl) T0.len PySem.boot_len (pa_cons (pv 5) pa_nil)) pa_nil)) (blkOk_by (own := [("k", 4)]) (N := N_law_hops) (sc := defScope s_law_hops) (by decide +kernel)) (fun _ _ _ _ _ => pg_name (i := 4) sc_law_hops.nd rfl (Or.inl rfl)) (fun _ _ _ _ _ => pts_nil) (fun _ _ _ _ _ => by exact (pe_op op_mul pe_int (pv 4)))) pa_nil)) (nomark _)) 
      (pss_one (ps_ret pe_bl)) pss_nil) 
    (pss_cons (ps_for PassesOwn.never rfl (pi_range1 (by rfl) T0.range (pa_cons pe_int pa_nil)) (pg_name (i := 6) sc_law_hops.nd rfl (Or.inl rfl)) 
      (pss_one (ps_if (PW.pt (pw_and (pt_cmpR op_gt (pe_callB call_len_seq (by rfl) T0.len PySem.boot_len (pa_cons (pv 5) pa_nil)) pe_int (nomark _)) (pw_and1 (pt_not (pt_val (pe_c0 GHop hr (by decide) rfl (pa_cons (pv 0) (pa_cons (pv 1) (pa_cons (pv 2) (pa_cons (pv 3) (pa_cons (pv 5) pa_nil))))))))))) 
        (pss_one (ps_ret pe_bl)) pss_nil))) 
    (pss_one (ps_ret pe_bl))))))), ?_⟩
  have hlf := cx.lf
  refine ⟨_, rfl, fun a dx ha hdx hne => ?_⟩
  have s0 : Same H (upd (upd H dx (.own a)) a (.ins CS dx [])) := fun y o h => by rw [upd_ne (ne_of_none h ha), upd_ne (ne_of_none h hdx)]; exact h
  refine ⟨a, dx, fv, T, rfl, upd_same, same_dtv s0 cx.form, cx.z, cx.g, by have := cx.h; omega, by have := cx.n; omega, fun H5 ta la sd Ls st tn fr fresh => ⟨rfl, ?_⟩⟩
  obtain ⟨s5, new5, j5⟩ := js_made hT cx ha hdx st tn fr fresh
  clear st tn fr fresh
  have r5 : Rn K tp ca H H5 := Rn.of hT s5
  -- the queues
  refine ⟨_, rfl, tp, ca, 16, rfl, r5.b, by decide, by decide, fun H6 n hn r6 => ?_⟩
  refine ⟨1, _, rfl, rfl, ⟨((1 + n : Nat) : Int), congrArg (fun z : Int => [V.int z]) (by omega), by omega, by omega, fun Dl hDl => ?_⟩⟩
  have nDt : Dl ≠ tp := r6.b.new hDl
  refine lc_range (lo := 0) (n := 1 + n) (fun k H' => Rn K tp ca H5 H' ∧ ∃ ns : List Nat, H' Dl = some (.lst (ns.map fun i => V.int (i : Nat))) ∧ ns.length = k ∧ ∀ i ∈ ns, i < T.lf) ⟨r6.same (same_new hDl), [], upd_same, rfl, fun i h => nomatch h⟩ ?_ ?_
  · rintro k H' hk ⟨r, ns, hD, hl, hb⟩
    have cx' := (j5.rn r).cx
    obtain ⟨ps, hps, hpn, hat⟩ := cx'.paths.at
    refine ⟨rfl, _, rfl, _, rfl, pl, _, rfl, .inl (SqL.of hps), tp, ca, ps.length, rfl, r.b, by omega, by omega, fun H7 i hi r7 => ?_⟩
    refine ⟨_, r7.at hD nDt, small1000 (by rw [List.length_map]; omega), ?_, ns ++ [i], by rw [upd_same, List.map_append]; rfl, by rw [List.length_append, hl]; rfl, fun x hx => ?_⟩
    · have := r.trans r7
      exact ⟨this.a, this.b.mut nDt (fun z => by
        obtain ⟨u, hu⟩ := r6.b.someC
        rw [← z, hDl] at hu
        exact nomatch hu), fun x u e => by
        have e2 := this.g x u e
        by_cases z : x = tp
        · rw [z, del_same] at e
          exact nomatch e
        · rw [del_ne z] at e e2 ⊢
          rw [upd_ne (fun y => ?_)]
          · exact e2
          · have h6 := r6.at e z
            rw [y, hDl] at h6
            exact nomatch h6⟩
    · rcases List.mem_append.mp hx with hx | hx
      · exact hb x hx
      · rw [List.mem_singleton.mp hx, ← hpn]
        exact hi
  rintro H7 ⟨r7, ns, hD, hl, hb⟩
  have hQ := qs_of hD hb
  have hN : ns.length ≤ 16 := by omega
  have hN1 : 1 ≤ ns.length := by omega
  generalize hpa : (fun k => (lv T).getD (ns.getD k 0) []) = pa at hQ
  generalize hqn : (fun k => ns.getD k 0) = qn at hQ
  generalize ns.length = N at hQ hN hN1 hl
  have j7 := j5.rn r7
  have hpaN : ∀ k, k < N → pa k ∈ lv T := fun k hk => List.mem_of_getElem? (hQ.p k hk)
  have hqN : ((List.range N).map fun k => V.int (qn k : Nat)).length = N := by rw [List.length_map, List.length_range]
  have hD0 : H Dl = none := by
    cases e : H Dl with
    | none => rfl
    | some o =>
      by_cases z : Dl = tp
      · exact absurd z nDt
      · have := (r5.trans r6).at e z
        rw [hDl] at this
        exact nomatch this
  have nDS : Dl ∉ sd :: Ls := fun z => by
    have h1 := j5.st.al Dl (j5.st.sub Dl z)
    cases e : H5 Dl with
    | none => exact h1 e
    | some o =>
      have := r6.at e nDt
      rw [hDl] at this
      exact nomatch this
  -- the pushes
  refine ⟨_, rfl, Dl, _, rfl, .inl (SqL.of hQ.l), ?_⟩
  rw [hqN]
  refine ⟨_, rfl, by omega, by omega, for_range (lo := 0) (n := N) (fun k σ H' => ∃ o4 o6 kv, σ = [some (.ref tp), some fv, some (.ref pl), some (.ref a), o4, some (.ref Dl), o6] ∧ GoS (sd :: Ls) H7 H' ∧ JS K C CS ((sd :: Ls) ++ [tp]) H' tp ca fv pl a ta la sd Ls T (L0 pa k) kv k) ⟨_, _, [], rfl, GoS.refl, j7⟩ ?_ ?_⟩
  · rintro k σ H8 hk ⟨o4, o6, kv, rfl, g8, j8⟩
    rw [show (0 + (k : Int)) = ((k : Nat) : Int) from Int.zero_add _]
    have hQ8 : H8 Dl = some (.lst ((List.range N).map fun k => V.int (qn k : Nat))) := g8.at hQ.l nDS
    have hpk := hQ.p k hk
    have mk := List.mem_of_getElem? hpk
    have hpl := ht_path mk
    have hht := cx.h
    obtain ⟨dx8, ob8⟩ := j8.st.obj
    obtain ⟨ps, hps, hpn, hat⟩ := j8.cx.paths.at
    obtain ⟨b, hb1, hb2⟩ := hat _ _ hpk
    refine ⟨_, rfl, a, dx8, _, rfl, ob8, rfl, _, rfl, _, _, rfl, rfl, .inl (by omega), _, rfl, _, rfl, Dl, _, _, _, rfl, rfl, SqL.of hQ8, hQ.at hk, ?_⟩
    refine cons0 (cb0 (cons0 ?_))
    refine lc_tups (n := (((pa k).length + 1 : Nat) : Int)) (c := [V.int (2 * ((k : Nat) : Int))]) (ea_cons (ev_is (ev_op (ev_lenT (ev_op (ev_var rfl) (ev_op (ev_var rfl) (ev_var rfl) (rv_ixL (SqL.of hQ8) (hQ.at hk))) (rv_ixL (SqL.of hps) (atI_nat hb1))) hb2) ev_c rv_I0) (by rw [intsN_len]; congr 1)) ea_nil) (by omega) (fun _ => rfl) (fun i H1 _ hi => eu_tup (ea_cons (ev_op ev_c (ev_var rfl) (rv_I (.inl (by omega)))) ea_nil) (by show 1 ≤ 100000; decide)) H8 (Ex.refl H8) _ fun p1 H9 as1 hp9 e9 h9 hl9 hx9 => ?_
    have hl9' : as1.length = (pa k).length + 1 := by rw [hl9]; omega
    refine ⟨p1, _, rfl, .inl ⟨SqL.of h9, fun z hz => ?_⟩⟩
    have e10 : Ex H9 (upd H9 z (.tup (as1.map V.ref))) := Ex.new hz
    have h10 : (upd H9 z (.tup (as1.map V.ref))) z = some (.tup (as1.map V.ref)) := upd_same
    revert e10 h10
    generalize upd H9 z (.tup (as1.map V.ref)) = H10
    intro e10 h10
    have e810 := e9.trans e10
    have j10 := j8.same e810
    have nz : z ∉ (sd :: Ls) ++ [tp] := fun h => (j8.same e9).st.al z h hz
    have nx : ∀ x ∈ as1, x ∉ (sd :: Ls) ++ [tp] := fun x hx h => by
      have h1 := j10.st.al x h
      rcases List.mem_append.mp h with h | h
      · by_cases hx0 : H8 x = none
        · exact j8.st.al x (j8.st.sub x h) hx0
        · rcases List.mem_cons.mp h with h | h
          · have := j8.st.se
            rw [← h] at this
            have e2 := e9 _ _ this
            rw [hx9 x hx] at e2
            exact nomatch e2
          · obtain ⟨i, hi⟩ := List.mem_iff_getElem?.mp h
            have hi2 := (List.getElem?_eq_some_iff.mp hi).1
            rw [j8.st.len, ← ad_len] at hi2
            obtain ⟨l', xs, g1, g2, g3⟩ := j8.st.li _ (List.getElem_mem hi2)
            rw [idx_of (List.getElem?_eq_getElem hi2), hi] at g1
            obtain rfl := Option.some.inj g1
            have e2 := e9 _ _ g2
            rw [hx9 x hx] at e2
            exact nomatch e2
      · rw [List.mem_singleton.mp h] at hx
        obtain ⟨_, _, _, _, _, t, _⟩ := j8.t
        have e2 := e9 _ _ t
        rw [hx9 _ hx] at e2
        exact nomatch e2
    have hdp : Dp K (offS ((sd :: Ls) ++ [tp]) H10) (.ref z) (.tuple ((List.replicate ((pa k).length + 1) [((2 * k : Nat) : Int)]).map intsD)) := by
      refine .tup (SqT.of (by rw [offS_ne nz]; exact h10)) ?_
      have := dp_refs (K := K) (H := offS ((sd :: Ls) ++ [tp]) H10) (ns := [((2 * k : Nat) : Int)]) as1 fun x hx => by
        rw [offS_ne (nx x hx), e10 _ _ (hx9 x hx)]
        rw [show 2 * ((k : Nat) : Int) = ((2 * k : Nat) : Int) by omega]
        rfl
      rw [hl9'] at this
      exact this
    have habs : valV kv (Sum.inl (g3 k) : Key) = none := seat_absent j10.se fun p hp z => by
      obtain ⟨k', hk', e⟩ := L0_its (fun i hi => hpaN i (by omega)) hp z
      have := g3_inj e
      omega
    have hg0 : 0 ≤ g3 k ∧ g3 k < packB := by
      unfold g3 packB
      omega
    refine ⟨a, ta, la, sd, (sd :: Ls) ++ [tp], Ls, T, L0 pa k, kv, g3 k, qn k, pa k, .ref z, _, ?_, j10.st, j10.ht20, habs, hg0.1, hg0.2, hpk, hdp, List.length_replicate .., (fun r hr => ?_), j10.sz', by have := j10.kl; omega, fun H11 g11 st11 => ?_⟩
    · show [V.ref a, V.int (3 * ((k : Nat) : Int)), V.int (qn k : Nat), V.ref z] = _
      rw [g3_mul']
    · rw [(List.mem_replicate.mp hr).2]
      exact rank_intsD ⟨by show 1 ≤ 8; decide, fun i hi => by
        obtain rfl : i = ((2 * k : Nat) : Int) := by simpa using hi
        unfold rankB
        omega⟩
    · have j11 := j10.psh hpk habs (by omega) g11 st11
      rw [L0_succ] at j11
      exact ⟨_, _, _, rfl, (g8.trans (GoS.of e810)).trans g11, j11⟩
  rintro σ H8 ⟨o4, o6, kv, rfl, g8, j8⟩
  have hQ8 : QsOK H8 Dl T pa qn N := ⟨g8.at hQ.l nDS, hQ.p⟩
  have r8 : Rn K tp ca H H8 := (r5.trans r7).goN g8 new5
  have hcn := L0_con (T := T) (pa := pa) hpaN
  obtain ⟨dx8, ob8⟩ := j8.st.obj
  refine ⟨_, rfl, a, dx8, _, rfl, ob8, rfl, a, ta, la, sd, (sd :: Ls) ++ [tp], Ls, T, _, kv, rfl, j8.st, j8.ht20, j8.con, j8.sz', fun H9 p9 s9 hp9 fz9 => ?_⟩
  rw [hcn.2] at fz9
  refine cb0 (cons0 ?_)
  refine el_is (ys := (List.range N).map fun k => V.int (g3 k)) (el_lcR1 (n := (N : Nat)) (fun _ => true) (fun k => V.int (g3 k)) (ea_cons (ev_is (ev_len (ev_var rfl) (SqL.of (s9 _ _ hQ8.l))) (by rw [hqN])) ea_nil) (by omega) (fun _ => rfl) (fun _ _ _ _ => et_yes) (fun i H1 _ hi _ => ev_is (ev_op ev_c (ev_var rfl) (rv_I (.inl (by omega)))) (by rw [g3_mul']))) (by rw [given_all]; rfl) H9 (Ex.refl H9) _ fun p10 H10 hp10 e10 h10 => ?_
  refine ⟨p10, _, rfl, .inl ⟨SqL.of h10, fun z hz => ?_⟩⟩
  have e11 : Ex H10 (upd H10 z (.tup ((List.range N).map fun k => V.int (g3 k)))) := Ex.new hz
  refine ⟨intsD _, intsD ((List.range N).map g3), ((fz9.same e10).same e11).dp, dp_intT (SqT.of (by rw [upd_same, List.map_map]; rfl)), shaped_ints _, shaped_ints _, _, rfl, ?_⟩
  rw [eqv_ints, decide_eq_true rfl]
  refine iteF ?_
  have e811 := s9.trans (e10.trans e11)
  revert e811
  generalize upd H10 z (.tup ((List.range N).map fun k => V.int (g3 k))) = H11
  intro e811
  have j11 := j8.same e811
  have hQ11 := hQ8.rn (Rn.of j8.t e811) nDt
  have r11 := r8.same e811
  refine ⟨8, rfl, by decide, by decide, for_range (lo := 0) (n := 8) (fun m σ H' => ∃ o4 o6, σ = [some (.ref tp), some fv, some (.ref pl), some (.ref a), o4, some (.ref Dl), o6] ∧ Rn K tp ca H11 H') ⟨_, _, rfl, Rn.refl j11.t⟩ ?_ ?_⟩
  · rintro m σ H12 hm ⟨o4, o6, rfl, r12⟩
    have hQ12 := hQ11.rn r12 nDt
    refine ⟨_, rfl, Dl, _, rfl, .inl (SqL.of hQ12.l), ?_⟩
    rw [hqN]
    refine ⟨_, _, rfl, rfl, _, rfl, ite2 (fun hc => ?_) fun hc => ?_⟩
    · have h2 : 2 ≤ N := by
        have := of_decide_eq_true hc
        omega
      have j12 := j11.rn r12
      have j12' : JS K C CS ((sd :: Ls) ++ [tp]) H12 tp ca fv pl a ta la sd Ls T (L0 pa N) kv 16 := ⟨j12.cx, j12.st, j12.con, j12.se, j12.t, fun q => Nat.le_trans (j12.sz q) hN, Nat.le_trans j12.kl hN, by decide, j12.tS, j12.tL, j12.cS⟩
      exact ⟨_, rfl, _, rfl, _, rfl, _, rfl, _, rfl, tp, ca, pl, a, Dl, fv, _, ta, la, sd, Ls, T, pa, qn, N, kv, rfl, j12', hQ12, nDt, h2, hN, fun H13 r13 => ⟨_, rfl, iteF ⟨_, _, rfl, r12.trans r13⟩⟩⟩
    · exact ⟨_, _, rfl, r12⟩
  · rintro σ H12 ⟨o4, o6, rfl, r12⟩
    exact q H12 (r11.trans r12)
end
end K27
set_option Elab.async false
set_option linter.all false
set_option maxRecDepth 100000
set_option maxHeartbeats 8000000
namespace PyProof.Rows
open PySem
/-! ### sorted(t), a tuple of whole numbers -/
section
variable {prog : Program} {w : World} {A : Around} {E : Value → Shared → Prop} {s : Shared}
theorem collect_tupleK {l : Addr} {vs : List Value} {Q : List Value → Shared → Prop} {o : Obj} {n : Nat} (ho : s.heap.get? l = some o) (hc : o.cls = .type "tuple") (hd : o.data = .seq vs.toArray n)
    (h : Q vs { s with heap := (s.heap.push (seqObj "list" #[] 0)).update s.heap.objs.size (Obj.mapSeq (· ++ vs.toArray)) }) (hsz : vs.length ≤ sizeLine) :
    wpAny (model prog w) A (collect (.ref l)) Q E s := by
  unfold collect
  refine wpAny_bind (wpAny_runValue (codeAny_builtin entry_proto_collect' ?_))
  show wpAny _ _ (do again (.builtin "list.__iadd__" ⟨[← newList [], .ref l], []⟩)) _ _ s
  refine wpAny_bind (wpAny_newList (wpAny_pure ⟨Code.quiet_builtin _ (by decide +kernel), codeAny_builtin entry_list_iadd' ?_⟩))
  show wpAny _ _ (Builtin.List.listExtendWith (.ref s.heap.objs.size) (.ref l) (.ref s.heap.objs.size)) _ _ { s with heap := s.heap.push (seqObj "list" #[] 0) }
  unfold Builtin.List.listExtendWith
  have ho' : (s.heap.push (seqObj "list" #[] 0)).get? l = some o := Heap.get?_push_of_some _ ho
  refine wpAny_bind (wpAny_typeOf (T := "tuple") ⟨o, ho', hc⟩ ?_)
  have ht : (Value.type "tuple" == Value.type "tuple") = true := by rfl
  rw [if_pos (by rw [ht]; simp)]
  refine wpAny_bind (listItems_at ho' hd ?_)
  refine wpAny_bind (listItems_at (xs := #[]) (n := 0) (Heap.get?_push_size _ rfl) rfl ?_)
  rw [if_neg (by simp)]
  refine wpAny_bind (listUpdate_at (xs := #[]) (n := 0) (Heap.get?_push_size _ rfl) rfl ?_ (Nat.zero_le _) (by show (#[] ++ vs.toArray).size ≤ sizeLine + 1; simp only [Array.size_append, List.size_toArray, List.length_nil]; omega))
  refine wpAny_pure ?_
  show wpAny (model prog w) A (do
      let o ← load s.heap.objs.size
      match o.data with
      | .seq xs _ => pure xs.toList
      | _ => unsupported "internal:collect") Q E { s with heap := (s.heap.push (seqObj "list" #[] 0)).update s.heap.objs.size (Obj.mapSeq (· ++ vs.toArray)) }
  refine wpAny_bind (wpAny_load (get?_update_seq (Heap.get?_push_size _ rfl) _) ?_)
  show wpAny _ _ (pure ((#[] : Array Value) ++ vs.toArray).toList) Q E _
  rw [show ((#[] : Array Value) ++ vs.toArray).toList = vs by simp]
  exact wpAny_pure h
theorem sorted_intsT {l : Addr} {vs : List Value} {ns : List Int} {Q : Value → Shared → Prop} {o : Obj} {n : Nat} (ho : s.heap.get? l = some o) (hc : o.cls = .type "tuple") (hd : o.data = .seq vs.toArray n) (hI : IntsAre vs ns) (h64 : vs.length < 64)
    (h : ∀ (out : Array Value) (ns' : List Int), IntsAre out.toList ns' → ns'.Perm ns → ns'.Pairwise (· ≤ ·) → Q (.ref (s.heap.objs.size + 1)) { s with heap := sortedAll s.heap vs out }) :
    wpAny (model prog w) A (call (.builtin "sorted") [.ref l]) Q E s := by
  refine Calls.call_function_entry kind_sorted plain_sorted entry_sorted (args_sorted1 _) ?_
  unfold Builtin.«sorted»
  refine wpAny_bind (m := checkCount "sorted" 1 1 _) (wpAny_pure ?_)
  refine wpAny_bind (collect_tupleK ho hc hd ?_ (by rw [sizeLine_eq]; omega))
  refine wpAny_bind (wpAny_newList ?_)
  have hsz : ((s.heap.push (seqObj "list" #[] 0)).update s.heap.objs.size (Obj.mapSeq (· ++ vs.toArray))).objs.size = s.heap.objs.size + 1 := by
    rw [Heap.size_update, size_push']
  have hoL : (((s.heap.push (seqObj "list" #[] 0)).update s.heap.objs.size (Obj.mapSeq (· ++ vs.toArray))).push (seqObj "list" vs.toArray 0)).get? (s.heap.objs.size + 1) = some (seqObj "list" vs.toArray 0) := by
    rw [← hsz]; exact Heap.get?_push_size _ rfl
  show wpAny _ _ _ _ _ { s with heap := ((s.heap.push (seqObj "list" #[] 0)).update s.heap.objs.size (Obj.mapSeq (· ++ vs.toArray))).push (seqObj "list" vs.toArray 0) }
  rw [hsz]
  refine wpAny_bind (wpAny_holding (wpAny_call_entry slot_list_sort ⟨_, hoL, rfl⟩ entry_list_sort (list_sort_tree hoL hI h64 fun out ns' a1 a2 a3 => ⟨_, rfl, ?_⟩) (args_list_sort _)))
  exact wpAny_pure ⟨_, rfl, h out ns' a1 a2 a3⟩
end
end PyProof.Rows
namespace L2
open PySem PySem.Spec PyProof.Rows
def rSortTI (K : PySem.W.Frag) : List V → Hp → VK → Prop := fun vs H Q => ∃ (a : Addr) (ns : List Int), vs = [V.ref a] ∧ SqT K H a (ns.map V.int) ∧ ns.length < 64 ∧
  ∀ (ns' : List Int) (p : Addr), ns'.Perm ns → ns'.Pairwise (· ≤ ·) → H p = none → Q (.ref p) (upd H p (.lst (ns'.map V.int)))
theorem cr_sortTI {X : Cx} : CallR X (.builtin "sorted") (rSortTI X.K) := by
  intro pins s σ H vs us Q I r h
  obtain ⟨a, ns, rfl, hs, h64, q⟩ := h
  obtain ⟨its, rv, ⟨o, ho, hc, n, hd⟩, hl⟩ := I.tuple hs
  rw [Vals.ref1 r]
  have hi := rv.ints
  refine PyProof.Rows.sorted_intsT ho hc hd hi (by rw [hi.length]; exact h64) fun out ns' h1 h2 h3 => ?_
  obtain ⟨ep, he'⟩ := PyProof.Rows.sortedAll_at s.heap its out
  have hlen : (ns'.map V.int).length ≤ sizeLine := by rw [List.length_map, h2.length_eq]; exact small64 h64
  exact ⟨.ref _, upd H (s.heap.objs.size + 1) (.lst (ns'.map V.int)), I.laid (t' := s.toks) (fun _ _ => PyProof.Rows.sortedAll_old) (Nat.le_succ _) ⟨hlen, out.toList, ep, vals_of_ints h1, he'⟩, rfl, q ns' _ h2 h3 (I.hok.fresh (Nat.le_succ _))⟩
end L2
set_option Elab.async false
set_option linter.all false
set_option maxRecDepth 100000
set_option maxHeartbeats 8000000
namespace K27
open PySem PySem.Spec PyProof.Rows L2 Evl
open Dt (sub sub_nil sub_app sub_one sub_pre lcp lcp_le lcp_pre lv ad sub_ad isLf isLf_o idx_lt ad_len idx_of)
/-! ### what _law_pushes leans on -/
theorem eqv_intsL (ns ms : List Int) : PyData.eqv (.list (ns.map PyData.int)) (.list (ms.map PyData.int)) = decide (ns = ms) := by
  rw [PyData.eqv]
  exact PySem.W.ked_eqvAll ns ms
theorem shaped_intsL (l : List Int) : SeqAt.shaped (.list (l.map PyData.int)) = true := by
  have := shaped_ints l
  unfold intsD at this
  unfold SeqAt.shaped at this ⊢
  simpa [PyData.canLay0, PyData.depth] using this
theorem dp_intL {K : PySem.W.Frag} {H : Hp} {y : Addr} {ns : List Int} (h : SqL K H y (ns.map V.int)) : Dp K H (.ref y) (.list (ns.map PyData.int)) := .lst h (dps_intT ns)
section
variable {K : PySem.W.Frag} {C CS : Addr} {S : List Addr} {H H' : Hp} {tp ca : Addr} {fv : V} {pl a ta la sd : Addr} {Ls : List Addr} {T : Dt} {L : Lns} {kv : List (Key × V)} {m : Nat}
theorem JS.grow {N : List Addr} (j : JS K C CS S H tp ca fv pl a ta la sd Ls T L kv m) (e : Same H H') (h : ∀ y ∈ N, H y = none) (h2 : ∀ y ∈ N, H' y ≠ none) : JS K C CS (N ++ S) H' tp ca fv pl a ta la sd Ls T L kv m := by
  have gs := offS_grow (S := S) e h
  have t' := j.t.same e
  refine ⟨⟨j.cx.p.same gs, same_dtv gs j.cx.v, j.cx.g, j.cx.h, j.cx.n, j.cx.z⟩, j.st.grow e h h2, j.con, j.se, t', j.sz, j.kl, j.m9, List.mem_append_right _ j.tS, j.tL, fun z => ?_⟩
  rcases List.mem_append.mp z with z | z
  · obtain ⟨u, hu⟩ := j.t.someC
    rw [h ca z] at hu
    exact nomatch hu
  · exact j.cS z
theorem JS.keep {M : List Addr} (j : JS K C CS S H tp ca fv pl a ta la sd Ls T L kv m) (g : GoS M H H') (h : ∀ y ∈ M, y ∈ S) (n : ∀ y ∈ M, y ∉ sd :: Ls) (nt : tp ∉ M) : JS K C CS S H' tp ca fv pl a ta la sd Ls T L kv m := by
  refine ⟨j.cx.keep (g.wide h), j.st.keep g h n, j.con, j.se, ?_, j.sz, j.kl, j.m9, j.tS, j.tL, j.cS⟩
  obtain ⟨cs, i, b, s, h1, h2, h3, h4⟩ := j.t
  exact ⟨cs, i, b, s, h1, g.at h2 nt, g.at h3 (fun z => j.cS (h _ z)), h4⟩
end
theorem FrzT.go {M : List Addr} {H H' : Hp} {x : Addr} {ns : List Int} (f : FrzT H x ns) (g : GoS M H H') (n : ∀ y ∈ M, ∀ ob xs, H y ≠ some (.frz ob (.tup xs))) : FrzT H' x ns := by
  obtain ⟨ob, h1, h2, h3⟩ := f
  exact ⟨ob, g.at h1 fun z => n x z _ _ h1, h2, h3⟩
/-- the ranks that are drawn -/
theorem lc_ranks {K : PySem.W.Frag} {σ : L2.St} {H : Hp} {tr : TA} {j : Nat} {vs : List Nat} {n : Int} {tp ca : Addr} {m : Nat} (hT : Tape K H tp ca) (h : EvA tr σ H [.int n]) (hn : 0 ≤ n ∧ n ≤ 900) (hw : ∀ x, wipe ((wipe σ vs).set j (some x)) vs = wipe σ vs) (h0 : ∀ x, ((wipe σ vs).set j (some x))[0]? = some (some (.ref tp))) (h4 : ∀ x, ((wipe σ vs).set j (some x))[4]? = some (some (.int (m : Nat)))) {Q : VK}
    (q : ∀ (H' : Hp) (D : Addr) (as : List Addr) (nss : List (List Int)), Rn K tp ca H H' → H D = none → H' D = some (.lst (as.map V.ref)) → as.length = n.toNat → Paired (fun x ns => H' x = some (.tup (ns.map V.int)) ∧ H x = none ∧ RankI ns) as nss → Q (.ref D) H') :
    tLc (iRng1 tr) (gName j) tYes (tCall (spRank1 K) [] E0 (tCons (tVar 0) (tCons (tVar 4) tNil))) vs σ H Q := h H (Ex.refl H) _ fun H1 e1 =>
  ⟨n, rfl, by omega, by omega, fun Dl hD => by
    have R1 : Rn K tp ca H H1 := Rn.of hT e1
    have hDl : H Dl = none := fresh_back e1 hD
    refine lc_range (lo := 0) (n := n.toNat) (fun i H' => Rn K tp ca H H' ∧ ∃ (as : List Addr) (nss : List (List Int)), H' Dl = some (.lst (as.map V.ref)) ∧ as.length = i ∧ Paired (fun x ns => H' x = some (.tup (ns.map V.int)) ∧ H x = none ∧ RankI ns) as nss) ⟨R1.same (Ex.new hD), [], [], upd_same, rfl, .nil⟩ ?_ ?_
    · rintro i H' hi ⟨R, as, nss, hl, hlen, hp⟩
      refine ⟨hw _, _, h0 _, _, h4 _, tp, ca, m, rfl, R.b, fun H2 b ns R2 hri hb0 hb => ?_⟩
      have nDt : Dl ≠ tp := R1.b.new hD
      have hl2 := R2.at hl nDt
      have nbD : b ≠ Dl := fun z => by rw [z, hl] at hb0; exact nomatch hb0
      refine ⟨_, hl2, small1000 (by rw [List.length_map]; omega), ⟨R.a, R2.b.mut nDt (fun z => ?_), fun x u e => ?_⟩, as ++ [b], nss ++ [ns], by rw [upd_same, List.map_append]; rfl, by rw [List.length_append, hlen]; rfl, Paired.app3 (Paired.weak (fun x ns' z => ?_) hp) (.cons ⟨?_, R.free hb0, hri⟩ .nil)⟩
      · obtain ⟨u, hu⟩ := hT.someC
        rw [← z, hDl] at hu
        exact nomatch hu
      · have e2 := (R.trans R2).g x u e
        by_cases z : x = tp
        · rw [z, del_same] at e
          exact nomatch e
        · rw [del_ne z] at e e2 ⊢
          rw [upd_ne (fun y => by rw [y, hDl] at e; exact nomatch e)]
          exact e2
      · obtain ⟨z1, z2, z3⟩ := z
        have z4 := R2.at z1 (fun y => by
          obtain ⟨_, _, _, _, _, t, _⟩ := R.b
          rw [← y, z1] at t
          exact nomatch t)
        refine ⟨?_, z2, z3⟩
        rw [upd_ne (fun y => by rw [y, hl2] at z4; exact nomatch z4)]
        exact z4
      · rw [upd_ne nbD]
        exact hb
    · rintro H' ⟨R, as, nss, hl, hlen, hp⟩
      exact q H' Dl as nss R hDl hl hlen hp⟩
/-- a push -/
theorem push_use {K : PySem.W.Frag} {C CS : Addr} {S : List Addr} {H : Hp} {tp ca : Addr} {fv : V} {pl a ta la sd : Addr} {Ls : List Addr} {T : Dt} {L : Lns} {kv : List (Key × V)} {m n i : Nat} {p : Ad} {z : Addr} {as : List Addr} {nss : List (List Int)} (j : JS K C CS S H tp ca fv pl a ta la sd Ls T L kv m) (hn : ∀ p ∈ lv T, ((n : Nat) : Int) ∉ its (L p)) (hnb : n ≤ 1000000) (hp : (lv T)[i]? = some p) (hz : H z = some (.tup (as.map V.ref))) (zS : z ∉ S) (hl : as.length = p.length + 1) (hP : Paired (fun x ns => H x = some (.tup (ns.map V.int)) ∧ x ∉ S ∧ RankI ns) as nss) (hm : m + 1 ≤ 100) {Q : VK} {E : XK}
    (q : ∀ H', GoS (sd :: Ls) H H' → JS K C CS S H' tp ca fv pl a ta la sd Ls T (pshL p nss (n : Nat) L) (putK kv (Sum.inl ((n : Nat) : Int) : Key) (.int (i : Nat))) (m + 1) → nss.length = p.length + 1 → Q .non H') : spPushQ K C CS [.ref a, .int (n : Nat), .int (i : Nat), .ref z] H Q E := by
  have hnl : nss.length = p.length + 1 := by rw [← Paired.lenE hP, hl]
  have habs := seat_absent j.se hn
  have hdp : Dp K (offS S H) (.ref z) (.tuple (nss.map intsD)) := by
    refine .tup (SqT.of (by rw [offS_ne zS]; exact hz)) ?_
    have : ∀ (as : List Addr) (nss : List (List Int)), Paired (fun x ns => H x = some (.tup (ns.map V.int)) ∧ x ∉ S ∧ RankI ns) as nss → DpAll K (offS S H) (as.map V.ref) (nss.map intsD) := by
      intro as nss h
      induction h with
      | nil => exact .nil
      | cons r _ ih => exact .cons (dp_intT (SqT.of (by rw [offS_ne r.2.1]; exact r.1))) ih
    exact this as nss hP
  have hrk : ∀ r ∈ nss, rankOf (intsD r) = true := fun r hr => by
    obtain ⟨k, hk⟩ := List.mem_iff_getElem?.mp hr
    obtain ⟨x, _, _, _, h3⟩ := Paired.idx hP hk
    exact rank_intsD h3
  exact ⟨a, ta, la, sd, S, Ls, T, L, kv, _, i, p, .ref z, nss, rfl, j.st, j.ht20, habs, by omega, by unfold packB; omega, hp, hdp, hnl, hrk, j.sz', by have := j.kl; have := j.m9; omega, fun H' g st => q H' g (j.psh hp habs hm g st) hnl⟩
/-! the packets 0, 1, 2, .. of the queues that were drawn -/
structure PK (T : Dt) (L : Lns) (ns : List Nat) : Prop where
  it : ∀ p ∈ lv T, ∀ x ∈ its (L p), ∃ k : Nat, k < ns.length ∧ x = (k : Nat) ∧ (lv T)[ns.getD k 0]? = some p
  pm : (ord T L).Perm ((List.range ns.length).map fun k => ((k : Nat) : Int))
theorem getD_left {ns : List Nat} {i k : Nat} (h : k < ns.length) : (ns ++ [i]).getD k 0 = ns.getD k 0 := by
  rw [List.getD_eq_getElem?_getD, List.getD_eq_getElem?_getD, List.getElem?_append_left h]
theorem getD_last {ns : List Nat} {i : Nat} : (ns ++ [i]).getD ns.length 0 = i := by
  rw [List.getD_eq_getElem?_getD, List.getElem?_append_right (Nat.le_refl _), Nat.sub_self]
  rfl
theorem PK.psh {T : Dt} {L : Lns} {ns : List Nat} {i : Nat} {p : Ad} {rs : List (List Int)} (h : PK T L ns) (c : Con T L) (hp : (lv T)[i]? = some p) (hr : rs.length = p.length + 1) : PK T (pshL p rs (ns.length : Nat) L) (ns ++ [i]) := by
  have mp := List.mem_of_getElem? hp
  obtain ⟨w, hw, hw0⟩ := lv_lf mp
  refine ⟨fun q hq x hx => ?_, ?_⟩
  · obtain ⟨w', hw', hw0'⟩ := lv_lf hq
    rw [List.length_append]
    by_cases e : q = p
    · subst e
      rcases List.mem_cons.mp ((pshL_self q rs _ L).mem_iff.mp hx) with h1 | h1
      · exact ⟨ns.length, by simp, h1, by rw [getD_last]; exact hp⟩
      · obtain ⟨k, k1, k2, k3⟩ := h.it q hq x h1
        exact ⟨k, by simp; omega, k2, by rw [getD_left k1]; exact k3⟩
    · rw [pshL_leaf mp hq e] at hx
      obtain ⟨k, k1, k2, k3⟩ := h.it q hq x hx
      exact ⟨k, by simp; omega, k2, by rw [getD_left k1]; exact k3⟩
  · refine (psh_perm p T w L rs _ c hw hw0 hr).trans ?_
    rw [List.length_append]
    show List.Perm _ ((List.range (ns.length + 1)).map _)
    rw [List.range_succ, List.map_append]
    exact (h.pm.cons _).trans (List.perm_append_singleton _ _).symm
theorem PK.nd {T : Dt} {L : Lns} {ns : List Nat} (h : PK T L ns) : (ord T L).Nodup := by
  refine h.pm.nodup_iff.mpr (List.Pairwise.map _ (fun i j h e => h ?_) List.nodup_range)
  have : ((i : Nat) : Int) = (j : Nat) := e
  omega
theorem PK.at {T : Dt} {L : Lns} {ns : List Nat} (h : PK T L ns) {k : Nat} (hk : k < ns.length) : ∃ i : Nat, (ord T L)[i]? = some ((k : Nat) : Int) := List.mem_iff_getElem?.mp (h.pm.mem_iff.mpr (List.mem_map_of_mem (f := fun k => ((k : Nat) : Int)) (List.mem_range.mpr hk)))
theorem PK.out {T : Dt} {L : Lns} {ns : List Nat} (h : PK T L ns) : ∀ p ∈ lv T, ((ns.length : Nat) : Int) ∉ its (L p) := fun p hp z => by
  obtain ⟨k, k1, k2, _⟩ := h.it p hp _ z
  omega
theorem PK.sorted {T : Dt} {L : Lns} {ns : List Nat} (h : PK T L ns) {xs : List Int} (hp : xs.Perm (ord T L)) (hs : xs.Pairwise (· ≤ ·)) : xs = (List.range ns.length).map fun k => ((k : Nat) : Int) := by
  refine List.Perm.eq_of_pairwise (le := fun a b : Int => a ≤ b) (fun a b _ _ h1 h2 => Int.le_antisymm h1 h2) hs ?_ (hp.trans h.pm)
  exact List.Pairwise.map _ (fun i j h => by
    have : i < j := h
    show ((i : Nat) : Int) ≤ (j : Nat)
    omega) List.pairwise_lt_range
/-- a push turns only what may be turned -/
theorem PK.turn {T : Dt} {L : Lns} {ns : List Nat} {i : Nat} {p q1 q2 : Ad} {rs : List (List Int)} (h : PK T L ns) (c : Con T L) (hp : (lv T)[i]? = some p) (hr : rs.length = p.length + 1) {k l : Nat} (hk : k < ns.length) (hl : l < ns.length) (hq1 : (lv T)[ns.getD k 0]? = some q1) (hq2 : (lv T)[ns.getD l 0]? = some q2) (hm : mayB p q1 q2 = false) {x y x' y' : Nat}
    (hx : (ord T L)[x]? = some ((k : Nat) : Int)) (hy : (ord T L)[y]? = some ((l : Nat) : Int)) (hx' : (ord T (pshL p rs (ns.length : Nat) L))[x']? = some ((k : Nat) : Int)) (hy' : (ord T (pshL p rs (ns.length : Nat) L))[y']? = some ((l : Nat) : Int)) : decide (x < y) = decide (x' < y') := by
  have h' := h.psh c hp hr
  obtain ⟨w, hw, hw0⟩ := lv_lf (List.mem_of_getElem? hp)
  obtain ⟨w1, hw1, hw10⟩ := lv_lf (List.mem_of_getElem? hq1)
  obtain ⟨w2, hw2, hw20⟩ := lv_lf (List.mem_of_getElem? hq2)
  refine lt_same (fun z => decide (z = ((k : Nat) : Int)) || decide (z = ((l : Nat) : Int))) h.nd h'.nd ?_ (by simp) (by simp) hx hy hx' hy'
  refine (psh_keep _ p T w L rs _ q1 q2 w1 w2 c hw hw0 hr ?_ hw1 hw10 hw2 hw20 (fun q w' g1 g2 z hz pz => ?_) hm).symm
  · rw [decide_eq_false (by omega), decide_eq_false (by omega)]
    rfl
  · obtain ⟨k', k1, k2, k3⟩ := h.it q (lf_lv g1 g2) z hz
    rw [Bool.or_eq_true] at pz
    rcases pz with pz | pz
    · have := of_decide_eq_true pz
      have : k' = k := by omega
      subst this
      exact .inl (lv_inj k3 hq1)
    · have := of_decide_eq_true pz
      have : k' = l := by omega
      subst this
      exact .inr (lv_inj k3 hq2)
/-- may_turn where it refuses nothing -/
def spMayQ (K : PySem.W.Frag) : Sp := fun vs H Q _ => ∃ (v : V) (t : Dt) (i j k : Nat) (p q1 q2 : Ad), vs = [v, .int (i : Nat), .int (j : Nat), .int (k : Nat)] ∧ DtV K H v t ∧ t.size ≤ 100000 ∧ t.good 1 = true ∧ t.ht < 20 ∧ t.nodes ≤ 1000 ∧ (lv t)[i]? = some p ∧ (lv t)[j]? = some q1 ∧ (lv t)[k]? = some q2 ∧ ∀ H', Same H H' → Q (.bl (mayB p q1 q2)) H'
theorem mayQ {P : Program} {w : World} {K : PySem.W.Frag} {mg : Str → Option Value} {base : Heap} {C U : Addr} (G : CalX P w K mg base (L2.CX P w) 24 "may_turn" ["form", "queue", "one", "other"] (spMay K C U)) : CalX P w K mg base CX0 24 "may_turn" ["form", "queue", "one", "other"] (spMayQ K) := by
  refine cal_quiet G fun vs H Q E h => ?_
  obtain ⟨v, t, i, j, k, p, q1, q2, rfl, hv, hz, hg, hht, hn, hi, hj, hk, q⟩ := h
  have li : i < t.lf := (List.getElem?_eq_some_iff.mp hi).1
  have lj : j < t.lf := (List.getElem?_eq_some_iff.mp hj).1
  have lk : k < t.lf := (List.getElem?_eq_some_iff.mp hk).1
  refine ⟨v, _, _, _, t, some (i : Nat), some (j : Nat), some (k : Nat), rfl, hv, hz, (fun _ => ⟨hht, hn⟩), rfl, rfl, rfl, (fun g => by rw [hg] at g; exact nomatch g), (fun _ g => by rw [below_lt li] at g; exact nomatch g), (fun _ _ g => by rw [below_lt lj] at g; exact nomatch g), (fun _ _ _ g => by rw [below_lt lk] at g; exact nomatch g), fun _ i' j' k' p' q1' q2' x1 x2 x3 y1 y2 y3 H' s => ?_⟩
  have x1 : i' = i := by injection x1 with x1; omega
  have x2 : j' = j := by injection x2 with x2; omega
  have x3 : k' = k := by injection x3 with x3; omega
  subst x1 x2 x3
  obtain rfl := lv_inj hi y1
  obtain rfl := lv_inj hj y2
  obtain rfl := lv_inj hk y3
  exact q H' s
end K27
set_option Elab.async false
set_option linter.all false
set_option maxRecDepth 100000
set_option maxHeartbeats 8000000
namespace K27
open PySem PySem.Spec PyProof.Rows L2 Evl
open Dt (sub sub_nil sub_app sub_one sub_pre lcp lcp_le lcp_pre lv ad sub_ad isLf isLf_o idx_lt ad_len idx_of)
/-! ### _law_pushes -/
def spPushes (K : PySem.W.Frag) : Sp := fun vs H Q _ => ∃ (tp ca pl : Addr) (fv : V) (T : Dt), vs = [.ref tp, fv, .ref pl] ∧ Tape K H tp ca ∧ CtxF K [tp] H fv pl T ∧ ∀ H', Rn K tp ca H H' → Q (.bl true) H'
/-- the dictionary of what was asked -/
def AskD (H : Hp) (ad : Addr) (n : Nat) : Prop := ∃ kvs : List (List Key × V), H ad = some (.dT kvs) ∧ kvs.length ≤ n ∧ ∀ k v, valV kvs k = some v → v = .bl true
theorem AskD.same {H H' : Hp} {ad : Addr} {n : Nat} (h : AskD H ad n) (e : Same H H') : AskD H' ad n := by
  obtain ⟨kvs, h1, h2, h3⟩ := h
  exact ⟨kvs, e _ _ h1, h2, h3⟩
theorem AskD.mono {H : Hp} {ad : Addr} {n m : Nat} (h : AskD H ad n) (e : n ≤ m) : AskD H ad m := by
  obtain ⟨kvs, h1, h2, h3⟩ := h
  exact ⟨kvs, h1, Nat.le_trans h2 e, h3⟩
/-- the numbers of the queues -/
def QsL (H : Hp) (ql : Addr) (T : Dt) (ns : List Nat) : Prop := H ql = some (.lst (ns.map fun i => V.int (i : Nat))) ∧ ∀ i ∈ ns, i < T.lf
theorem QsL.at {H : Hp} {ql : Addr} {T : Dt} {ns : List Nat} (h : QsL H ql T ns) {k : Nat} (hk : k < ns.length) : atI (ns.map fun i => V.int (i : Nat)) ((k : Nat) : Int) = some (.int (ns.getD k 0 : Nat)) ∧ ∃ p, (lv T)[ns.getD k 0]? = some p := by
  have e1 : ns.getD k 0 = ns[k] := by rw [List.getD_eq_getElem?_getD, List.getElem?_eq_getElem hk]; rfl
  refine ⟨atI_nat (by rw [List.getElem?_map, List.getElem?_eq_getElem hk, e1]; rfl), ?_⟩
  rw [e1]
  exact lv_get (h.2 _ (List.getElem_mem hk))
theorem gn0 {i : Nat} {v : V} {σ : L2.St} {H : Hp} {Q : L2.St → Hp → Prop} (h : Q (σ.set i (some v)) H) : gName i v σ H Q := h
/-- what lay there before lies there -/
def Old (H : Hp) (tp : Addr) (H' : Hp) : Prop := ∀ y o, H y = some o → y ≠ tp → H' y = some o
theorem Old.rn {K : PySem.W.Frag} {H H1 H2 : Hp} {tp ca : Addr} (h : Old H tp H1) (r : Rn K tp ca H1 H2) : Old H tp H2 := fun y o e n => r.at (h y o e n) n
theorem Old.same {H H1 H2 : Hp} {tp : Addr} (h : Old H tp H1) (r : Same H1 H2) : Old H tp H2 := fun y o e n => r _ _ (h y o e n)
theorem Old.go {H H1 H2 : Hp} {tp : Addr} {M : List Addr} (h : Old H tp H1) (g : GoS M H1 H2) (hM : ∀ y ∈ M, H y = none) : Old H tp H2 := fun y o e n => g.at (h y o e n) fun z => by
  rw [hM y z] at e
  exact nomatch e
theorem JS.nfrz {K : PySem.W.Frag} {C CS : Addr} {S : List Addr} {H : Hp} {tp ca : Addr} {fv : V} {pl a ta la sd : Addr} {Ls : List Addr} {T : Dt} {L : Lns} {kv : List (Key × V)} {m : Nat} (j : JS K C CS S H tp ca fv pl a ta la sd Ls T L kv m) : ∀ y ∈ sd :: Ls, ∀ ob xs, H y ≠ some (.frz ob (.tup xs)) := fun y hy ob xs e => by
  rcases List.mem_cons.mp hy with h | h
  · rw [h, j.st.se] at e
    exact nomatch e
  · obtain ⟨i, hi⟩ := List.mem_iff_getElem?.mp h
    have hi2 := (List.getElem?_eq_some_iff.mp hi).1
    rw [j.st.len, ← ad_len] at hi2
    obtain ⟨l', xs', g1, g2, g3⟩ := j.st.li _ (List.getElem_mem hi2)
    rw [idx_of (List.getElem?_eq_getElem hi2), hi] at g1
    obtain rfl := Option.some.inj g1
    rw [g2] at e
    exact nomatch e
section
variable {P : Program} {w : World} {K : PySem.W.Frag} {mg : Str → Option Value} {base : Heap} {C CS U fG fS : Addr} {fdS : FuncData}
theorem ok_pushes (D : DefAt K mg "_law_pushes" s_law_pushes ["tape", "form", "paths"]) (T0 : Txt K mg) (SC : StCl K CS) (MStanding : Mk K CS fS) (gStanding : mg "Standing" = some (.ref CS)) (bStanding : Binds K fdS ["self", "form"] []) (FStanding : FnOk P w K mg base CX0 24 fS fdS ["self", "form"] (spMadeQ K C CS)) (GDraw : CalX P w K mg base CX0 1 "_law_draw" ["tape", "many"] (spDraw K)) (GRank : CalX P w K mg base CX0 2 "_law_rank" ["tape", "manner"] (spRank1 K))
    (GTurned : CalX P w K mg base CX0 1 "_law_turned" ["before", "after", "one", "other"] spTurned) (GDue : CalX P w K mg base CX0 2 "_law_due" ["paths", "queue", "one", "other"] (spDue K)) (GMayTurn : CalX P w K mg base CX0 24 "may_turn" ["form", "queue", "one", "other"] (spMayQ K)) (MPush : MQ P w K mg base CS 5 "push" ["self", "number", "queue", "ranks"] (spPushQ K C CS)) (MOrder : MQ P w K mg base CS 21 "order" ["self"] (spOrdF K C CS)) :
    CalX P w K mg base CX0 29 "_law_pushes" ["tape", "form", "paths"] (spPushes K) := by
  refine D.ok sc_law_pushes (fun vs H Q E h => ?_) (fun f cdv A outer s H vs Q E hr h => ?_)
  · obtain ⟨tp, ca, pl, fv, T, rfl, _⟩ := h
    rfl
  obtain ⟨tp, ca, pl, fv, T, rfl, hT, cx, q⟩ := h
  have hu := hu_of hr
  refine ⟨_, (pss_cons (ps_set (i := 3) sc_law_pushes.nd rfl (.inl rfl) (pe_make MStanding FStanding (hr.mono (by decide)) rfl gStanding bStanding .nil pass0 (pa_cons (pv 1) pa_nil))) 
    (pss_cons (ps_set (i := 4) sc_law_pushes.nd rfl (.inr rfl) (pe_c0 GDraw hr (by decide) rfl (pa_cons (pv 0) (pa_cons pe_int pa_nil)))) 
    (pss_cons (ps_setLc (i := 6) (own := [("k", 5)]) (g := gName 5) (tt := tYes) (by rfl) sc_law_pushes.nd rfl (by rfl) (sw_true rfl rfl rfl (by decide +kernel)) (pi_range1 (by rfl) T0.range (pa_cons (pe_op op_add pe_int (pe_c0 GDraw hr (by decide) rfl (pa_cons (pv 0) (pa_cons pe_int pa_nil)))) pa_nil)) (blkOk_by (own := [("k", 5)]) (N := N_law_pushes) (sc := defScope s_law_pushes) (by decide +kernel)) (fun _ _ _ _ _ => pg_name (i := 5) sc_law_pushes.nd rfl (Or.inl rfl)) (fun _ _ _ _ _ => pts_nil) (fun _ _ _ _ _ => by exact (pe_c0 GDraw hr (by decide) rfl (pa_cons (pv 0) (pa_cons (pe_callB (call_len_seqK (K := K) (by exact rfl)) (by rfl) T0.len PySem.boot_len (pa_cons (pv 2) pa_nil)) pa_nil))))) 
    (pss_cons (ps_for PassesOwn.never rfl (pi_range1 (by rfl) T0.range (pa_cons (pe_callB call_len_seq (by rfl) T0.len PySem.boot_len (pa_cons (pv 6) pa_nil)) pa_nil)) (pg_name (i := 5) sc_law_pushes.nd rfl (Or.inl rfl)) 
      (pss_cons (ps_set (i := 8) sc_law_pushes.nd rfl (.inl rfl) (pe_callTy call_tuple_of (by rfl) T0.tuple PyProof.Rows.boot_tuple (pa_cons (pe_lc (own := [("turn", 7)]) (g := gName 7) (tt := tYes) (by rfl) sc_law_pushes.nd (pi_range1 (by rfl) T0.range (pa_cons (pe_op op_add (pe_callB call_len_seq (by rfl) T0.len PySem.boot_len (pa_cons (pe_ix ix_list (pv 2) (pe_ix ix_list (pv 6) (pv 5) (fun _ _ => rfl)) (fun _ _ => rfl)) pa_nil)) pe_int) pa_nil)) (blkOk_by (own := [("turn", 7)]) (N := N_law_pushes) (sc := defScope s_law_pushes) (by decide +kernel)) (fun _ _ _ _ _ => pg_name (i := 7) sc_law_pushes.nd rfl (Or.inl rfl)) (fun _ _ _ _ _ => pts_nil) (fun _ _ _ _ _ => by exact (pe_c0 GRank hr (by decide) rfl (pa_cons (pv 0) (pa_cons (pv 4) pa_nil))))) pa_nil))) 
      (pss_one (ps_expr (pe_m1 (pv 3) SC.cl MPush hr (by decide) (pa_cons (pv 5) (pa_cons (pe_ix ix_list (pv 6) (pv 5) (fun _ _ => rfl)) (pa_cons (pv 8) pa_nil)))))))) 
    (pss_cons (ps_set (i := 9) sc_law_pushes.nd rfl (.inl rfl) pe_dnewT) 
    (pss_cons (ps_for PassesOwn.never rfl (pi_range1 (by rfl) T0.range (pa_cons pe_int pa_nil)) (pg_name (i := 7) sc_law_pushes.nd rfl (Or.inl rfl)) 
      (pss_cons (ps_set (i := 10) sc_law_pushes.nd rfl (.inl rfl) (pe_m0 (pv 3) SC.cl MOrder hr (by decide))) 
      (pss_cons (ps_set (i := 11) sc_law_pushes.nd rfl (.inl rfl) (pe_c0 GDraw hr (by decide) rfl (pa_cons (pv 0) (pa_cons (pe_callB call_len_seq (by rfl) T0.len PySem.boot_len (pa_cons (pv 2) pa_nil)) pa_nil)))) 
      (pss_cons (ps_set (i := 8) sc_law_pushes.nd rfl (.inl rfl) (pe_callTy call_tuple_of (by rfl) T0.tuple PyProof.Rows.boot_tuple (pa_cons (pe_lc (own := [("step", 12)]) (g := gName 12) (tt := tYes) (by rfl) sc_law_pushes.nd (pi_range1 (by rfl) T0.range (pa_cons (pe_op op_add (pe_callB call_len_seq (by rfl) T0.len PySem.boot_len (pa_cons (pe_ix ix_list (pv 2) (pv 11) (fun _ _ => rfl)) pa_nil)) pe_int) pa_nil)) (blkOk_by (own := [("step", 12)]) (N := N_law_pushes) (sc := defScope s_law_pushes) (by decide +kernel)) (fun _ _ _ _ _ => pg_name (i := 12) sc_law_pushes.nd rfl (Or.inl rfl)) (fun _ _ _ _ _ => pts_nil) (fun _ _ _ _ _ => by exact (pe_c0 GRank hr (by decide) rfl (pa_cons (pv 0) (pa_cons (pv 4) pa_nil))))) pa_nil))) 
      (pss_cons (ps_expr (pe_m1 (pv 3) SC.cl MPush hr (by decide) (pa_cons (pe_callB call_len_seq (by rfl) T0.len PySem.boot_len (pa_cons (pv 6) pa_nil)) (pa_cons (pv 11) (pa_cons (pv 8) pa_nil))))) 
      (pss_cons (ps_set (i := 13) sc_law_pushes.nd rfl (.inl rfl) (pe_m0 (pv 3) SC.cl MOrder hr (by decide))) 
      (pss_cons (ps_expr (pe_bm PySem.F.plainAttrs_list PySem.F.slot_list_append PySem.F.type_list_append mt_append (pv 6) (pa_cons (pv 11) pa_nil))) 
      (pss_cons (ps_if (PW.pt (pw_or (pt_cmpR (op_neD hr.units) (pe_callB cr_sortTI (by rfl) T0.sorted (by decide +kernel) (pa_cons (pv 13) pa_nil)) (pe_lc (own := [("k", 5)]) (g := gName 5) (tt := tYes) (by rfl) sc_law_pushes.nd (pi_range1 (by rfl) T0.range (pa_cons (pe_callB call_len_seq (by rfl) T0.len PySem.boot_len (pa_cons (pv 6) pa_nil)) pa_nil)) (blkOk_by (own := [("k", 5)]) (N := N_law_pushes) (sc := defScope s_law_pushes) (by decide +kernel)) (fun _ _ _ _ _ => pg_name (i := 5) sc_law_pushes.nd rfl (Or.inl rfl)) (fun _ _ _ _ _ => pts_nil) (fun _ _ _ _ _ => by exact (pv 5))) (nomark _)) (pw_or1 (pt_cmpR (op_neD hr.units) (pe_callB cr_sortTI (by rfl) T0.sorted (by decide +kernel) (pa_cons (pv 10) pa_nil)) (pe_lc (own := [("k", 5)]) (g := gName 5) (tt := tYes) (by rfl) sc_law_pushes.nd (pi_range1 (by rfl) T0.range (pa_cons (pe_op op_sub (pe_callB call_len_seq (by rfl) T0.len PySem.boot_len (pa_cons (pv 6) pa_nil)) pe_int) pa_nil)) (blkOk_by (own := [("k", 5)]) (N := N_law_pushes) (sc := defScope s_law_pushes) (by decide +kernel)) (fun _ _ _ _ _ => pg_name (i := 5) sc_law_pushes.nd rfl (Or.inl rfl)) (fun _ _ _ _ _ => pts_nil) (fun _ _ _ _ _ => by exact (pv 5))) (nomark _))))) 
        (pss_one (ps_ret pe_bl)) pss_nil) 
      (pss_one (ps_for PassesOwn.never rfl (pi_range1 (by rfl) T0.range (pa_cons (pe_op op_sub (pe_callB call_len_seq (by rfl) T0.len PySem.boot_len (pa_cons (pv 6) pa_nil)) pe_int) pa_nil)) (pg_name (i := 5) sc_law_pushes.nd rfl (Or.inl rfl)) 
        (pss_one (ps_for PassesOwn.never rfl (pi_range1 (by rfl) T0.range (pa_cons (pv 5) pa_nil)) (pg_name (i := 14) sc_law_pushes.nd rfl (Or.inl rfl)) 
          (pss_one (ps_if (pt_val (pe_c0 GTurned hr (by decide) rfl (pa_cons (pv 10) (pa_cons (pv 13) (pa_cons (pv 14) (pa_cons (pv 5) pa_nil)))))) 
            (pss_cons (ps_set (i := 15) sc_law_pushes.nd rfl (.inl rfl) (pe_tup (pa_cons (pv 11) (pa_cons (pe_ix ix_list (pv 6) (pv 14) (fun _ _ => rfl)) (pa_cons (pe_ix ix_list (pv 6) (pv 5) (fun _ _ => rfl)) pa_nil))))) 
            (pss_cons (ps_if (pt_not (pt_val (pe_c0 GDue hr (by decide) rfl (pa_cons (pv 2) (pa_cons (pv 11) (pa_cons (pe_ix ix_list (pv 6) (pv 14) (fun _ _ => rfl)) (pa_cons (pe_ix ix_list (pv 6) (pv 5) (fun _ _ => rfl)) pa_nil))))))) 
              (pss_one (ps_ret pe_bl)) pss_nil) 
            (pss_cut (ps_if (pt_cmp (pc_dnotin hu (pv 15) (pv 9))) 
              (pss_one (ps_dput hu (pv 9) (pv 15) (pe_c0 GMayTurn hr (by decide) rfl (pa_cons (pv 1) (pa_cons (pv 11) (pa_cons (pe_ix ix_list (pv 6) (pv 14) (fun _ _ => rfl)) (pa_cons (pe_ix ix_list (pv 6) (pv 5) (fun _ _ => rfl)) pa_nil))))) rfl)) pss_nil) 
            (pss_one (ps_if (pt_cmpR op_isnot_bl (pe_dget hu (pv 9) (pv 15) (fun _ _ => rfl)) pe_bl (nomark _)) 
              (pss_one (ps_ret pe_bl)) pss_nil))))) pss_nil)))))))))))))) 
    (pss_one (ps_ret pe_bl)))))))), ?_⟩
  have hlf := cx.lf
  have hht := cx.h
  refine ⟨_, rfl, fun a dx ha hdx hne => ?_⟩
  have s0 : Same H (upd (upd H dx (.own a)) a (.ins CS dx [])) := fun y o h => by rw [upd_ne (ne_of_none h ha), upd_ne (ne_of_none h hdx)]; exact h
  refine ⟨a, dx, fv, T, rfl, upd_same, same_dtv s0 cx.form, cx.z, cx.g, by omega, by have := cx.n; omega, fun H5 ta la sd Ls st tn fr fresh => ⟨rfl, ?_⟩⟩
  obtain ⟨s5, new5, j5⟩ := js_made hT cx ha hdx st tn fr fresh
  clear st tn fr fresh
  have r5 : Rn K tp ca H H5 := Rn.of hT s5
  refine ⟨_, rfl, tp, ca, 3, rfl, r5.b, by decide, by decide, fun H51 mn hmn r51 => ?_⟩
  -- the queues
  refine ⟨_, rfl, tp, ca, 13, rfl, r51.b, by decide, by decide, fun H6 n hn r6 => ?_⟩
  have r56 := r51.trans r6
  refine ⟨2, _, rfl, rfl, ⟨((2 + n : Nat) : Int), congrArg (fun z : Int => [V.int z]) (by omega), by omega, by omega, fun Dl hDl => ?_⟩⟩
  have nDt : Dl ≠ tp := r6.b.new hDl
  have hD5 : H5 Dl = none := by
    cases e : H5 Dl with
    | none => rfl
    | some o =>
      have := r56.at e nDt
      rw [hDl] at this
      exact nomatch this
  have hD0 : H Dl = none := s5.free hD5
  have alS : ∀ {S : List Addr} {H' : Hp} {L : Lns} {kv : List (Key × V)} {m : Nat}, JS K C CS S H' tp ca fv pl a ta la sd Ls T L kv m → ∀ y, H' y = none → y ∉ S := fun j y hy z => j.st.al y z hy
  have j6 := (j5.rn r56).grow (N := [Dl]) (same_new (o := .lst []) hDl) (fun y hy => by rw [List.mem_singleton.mp hy]; exact hDl) (fun y hy => by rw [List.mem_singleton.mp hy, upd_same]; exact fun z => nomatch z)
  have nDS : Dl ∉ sd :: Ls := fun z => (j5.rn r56).st.al Dl ((j5.rn r56).st.sub _ z) hDl
  have D_in : Dl ∈ [Dl] ++ ((sd :: Ls) ++ [tp]) := List.mem_append_left _ (List.mem_singleton.mpr rfl)
  have kD : ∀ {S : List Addr} {H' : Hp} {L : Lns} {kv : List (Key × V)} {m : Nat} {o : HO}, Dl ∈ S → JS K C CS S H' tp ca fv pl a ta la sd Ls T L kv m → JS K C CS S (upd H' Dl o) tp ca fv pl a ta la sd Ls T L kv m := fun hS j => j.keep (M := [Dl]) (GoS.refl.upd (List.mem_singleton.mpr rfl)) (fun y hy => by rw [List.mem_singleton.mp hy]; exact hS) (fun y hy => by rw [List.mem_singleton.mp hy]; exact nDS) (fun z => nDt (List.mem_singleton.mp z).symm)
  have old5 : Old H tp H5 := fun y o e _ => s5 _ _ e
  have oldD : ∀ {H' : Hp} {o : HO}, Old H tp H' → Old H tp (upd H' Dl o) := fun h => h.go (M := [Dl]) (GoS.refl.upd (List.mem_singleton.mpr rfl)) (fun y hy => by rw [List.mem_singleton.mp hy]; exact hD0)
  refine lc_range (lo := 0) (n := 2 + n) (fun k H' => Old H tp H' ∧ JS K C CS ([Dl] ++ ((sd :: Ls) ++ [tp])) H' tp ca fv pl a ta la sd Ls T (fun _ => []) [] 0 ∧ ∃ ns : List Nat, QsL H' Dl T ns ∧ ns.length = k) ⟨oldD (old5.rn r56), j6, [], ⟨upd_same, fun i h => nomatch h⟩, rfl⟩ ?_ ?_
  · rintro k H' hk ⟨old, jj, ns, ⟨hD, hb⟩, hl⟩
    obtain ⟨ps, hps, hpn, hat⟩ := jj.cx.paths.at
    refine ⟨rfl, _, rfl, _, rfl, pl, _, rfl, .inl (SqL.of hps), tp, ca, ps.length, rfl, jj.t, by omega, by omega, fun H7 i hi r7 => ?_⟩
    refine ⟨_, r7.at hD nDt, small1000 (by rw [List.length_map]; omega), oldD (old.rn r7), kD D_in (jj.rn r7), ns ++ [i], ⟨by rw [upd_same, List.map_append]; rfl, fun x hx => ?_⟩, by rw [List.length_append, hl]; rfl⟩
    rcases List.mem_append.mp hx with hx | hx
    · exact hb x hx
    · rw [List.mem_singleton.mp hx, ← hpn]
      exact hi
  rintro H7 ⟨old7, j7, ns, hQ7, hl⟩
  have len : ∀ {i : Nat} {p : Ad}, (lv T)[i]? = some p → p.length ≤ 11 := fun h => by have := ht_path (List.mem_of_getElem? h); omega
  generalize hS1 : [Dl] ++ ((sd :: Ls) ++ [tp]) = S1 at j7 D_in
  -- the first pushes
  refine ⟨_, rfl, Dl, _, rfl, .inl (SqL.of hQ7.1), ?_⟩
  rw [List.length_map, hl]
  refine ⟨_, rfl, by omega, by omega, for_range (lo := 0) (n := 2 + n) (fun k σ H' => ∃ o5 o7 o8 o9 o10 o11 o12 o13 o14 o15 L kv, σ = [some (.ref tp), some fv, some (.ref pl), some (.ref a), some (.int (mn : Nat)), o5, some (.ref Dl), o7, o8, o9, o10, o11, o12, o13, o14, o15] ∧ Old H tp H' ∧ JS K C CS S1 H' tp ca fv pl a ta la sd Ls T L kv k ∧ PK T L (ns.take k) ∧ QsL H' Dl T ns) ⟨_, _, _, _, _, _, _, _, _, _, _, _, rfl, old7, j7, ⟨(fun p hp x hx => nomatch hx), ?_⟩, hQ7⟩ ?_ ?_⟩
  · have : ord T (fun _ => []) = [] := List.eq_nil_of_length_eq_zero (by rw [ord_length]; rfl)
    rw [this]
    exact .refl _
  · rintro k σ H8 hk ⟨o5, o7, o8, o9, o10, o11, o12, o13, o14, o15, L, kv, rfl, old8, j8, pk8, hQ8⟩
    rw [show (0 + (k : Int)) = ((k : Nat) : Int) from Int.zero_add _]
    obtain ⟨hqk, p, hp⟩ := hQ8.at (show k < ns.length by omega)
    obtain ⟨ps, hps, hpn, hat⟩ := j8.cx.paths.at
    obtain ⟨b, hb1, hb2⟩ := hat _ _ hp
    have hpl := len hp
    refine gn0 (q_asg0 (cb0 (cons0 ?_)))
    refine lc_ranks (m := mn) (n := ((p.length + 1 : Nat) : Int)) j8.t (ea_cons (ev_is (ev_op (ev_lenT (ev_op (ev_var rfl) (ev_op (ev_var rfl) (ev_var rfl) (rv_ixL (SqL.of hQ8.1) hqk)) (rv_ixL (SqL.of hps) (atI_nat hb1))) hb2) ev_c rv_I0) (by rw [intsN_len]; congr 1)) ea_nil) (by omega) (fun _ => rfl) (fun _ => rfl) (fun _ => rfl) fun H9 D9 as nss R9 hD90 hD9 hal hP => ?_
    have hal' : as.length = p.length + 1 := by rw [hal]; omega
    refine ⟨D9, _, rfl, .inl ⟨SqL.of hD9, fun z hz => ?_⟩⟩
    have e10 : Ex H9 (upd H9 z (.tup (as.map V.ref))) := Ex.new hz
    have h10 : (upd H9 z (.tup (as.map V.ref))) z = some (.tup (as.map V.ref)) := upd_same
    revert e10 h10
    generalize upd H9 z (.tup (as.map V.ref)) = H10
    intro e10 h10
    have R10 := R9.same e10
    have j10 := j8.rn R10
    have zS : z ∉ S1 := alS (j8.rn R9) z hz
    have hP10 : Paired (fun x ns => H10 x = some (.tup (ns.map V.int)) ∧ x ∉ S1 ∧ RankI ns) as nss := Paired.weak (fun x ns y => ⟨e10 _ _ y.1, alS j8 x y.2.1, y.2.2⟩) hP
    have hQ10 : QsL H10 Dl T ns := ⟨R10.at hQ8.1 nDt, hQ8.2⟩
    obtain ⟨dx10, ob10⟩ := j10.st.obj
    have hkl : (ns.take k).length = k := by rw [List.length_take]; omega
    have ho := pk8.out
    rw [hkl] at ho
    refine ⟨_, rfl, a, dx10, _, rfl, ob10, rfl, _, rfl, _, rfl, _, rfl, Dl, _, _, _, rfl, rfl, SqL.of hQ10.1, hqk, _, rfl, ?_⟩
    dsimp only [tNil]
    show spPushQ K C CS [.ref a, .int (k : Nat), .int (ns.getD k 0 : Nat), .ref z] H10 _ _
    refine push_use j10 ho (by omega) hp h10 zS hal' hP10 (by omega) fun H11 g11 j11 hnl => ?_
    have pk := pk8.psh j8.con hp hnl
    rw [hkl] at pk
    refine ⟨_, _, _, _, _, _, _, _, _, _, _, _, rfl, (old8.rn R10).go g11 new5, j11, ?_, g11.at hQ10.1 nDS, hQ10.2⟩
    rw [List.take_add_one, show ns[k]? = some (ns.getD k 0) by rw [List.getD_eq_getElem?_getD, List.getElem?_eq_getElem (by omega)]; rfl]
    exact pk
  rintro σ H8 ⟨o5, o7, o8, o9, o10, o11, o12, o13, o14, o15, L, kv, rfl, old8, j8, pk8, hQ8⟩
  rw [List.take_of_length_le (by omega)] at pk8
  -- the questions
  refine fun ad had => ?_
  have e9 := same_new (o := .dT []) had
  have j9 := j8.grow (N := [ad]) e9 (fun y hy => by rw [List.mem_singleton.mp hy]; exact had) (fun y hy => by rw [List.mem_singleton.mp hy, upd_same]; exact fun z => nomatch z)
  have A9 : AskD (upd H8 ad (.dT [])) ad 0 := ⟨[], upd_same, Nat.le_refl _, fun k v h => nomatch h⟩
  have nAS : ad ∉ sd :: Ls := fun z => j8.st.al ad (j8.st.sub _ z) had
  have nAt : ad ≠ tp := j8.t.new had
  have nAD : ad ≠ Dl := fun z => by rw [z, hQ8.1] at had; exact nomatch had
  have hA0 : H ad = none := by
    cases e : H ad with
    | none => rfl
    | some o =>
      have := old8 _ _ e nAt
      rw [had] at this
      exact nomatch this
  have hQ9 : QsL (upd H8 ad (.dT [])) Dl T ns := ⟨e9 _ _ hQ8.1, hQ8.2⟩
  have old9 := old8.same e9
  have D_in2 : Dl ∈ [ad] ++ S1 := List.mem_append_right _ D_in
  have A_in2 : ad ∈ [ad] ++ S1 := List.mem_append_left _ (List.mem_singleton.mpr rfl)
  revert j9 A9 hQ9 old9
  generalize upd H8 ad (.dT []) = H9
  intro j9 A9 hQ9 old9
  generalize hS2 : [ad] ++ S1 = S2 at j9 D_in2 A_in2
  refine ⟨4, rfl, by decide, by decide, for_range (lo := 0) (n := 4) (fun t σ H' => ∃ o5 o7 o8 o10 o11 o12 o13 o14 o15 L kv ns, σ = [some (.ref tp), some fv, some (.ref pl), some (.ref a), some (.int (mn : Nat)), o5, some (.ref Dl), o7, o8, some (.ref ad), o10, o11, o12, o13, o14, o15] ∧ Old H tp H' ∧ JS K C CS S2 H' tp ca fv pl a ta la sd Ls T L kv (ns.length) ∧ PK T L ns ∧ QsL H' Dl T ns ∧ ns.length ≤ 15 + t ∧ AskD H' ad (500 * t)) ⟨_, _, _, _, _, _, _, _, _, _, _, ns, rfl, old9, by rw [hl]; exact j9, pk8, hQ9, by omega, A9⟩ ?_ ?_⟩
  · rintro t σ H10 ht ⟨o5, o7, o8, o10, o11, o12, o13, o14, o15, L, kv, ns, rfl, old10, j10, pk10, hQ10, hnl, A10⟩
    have hht20 : T.ht < 20 := by omega
    obtain ⟨dx10, ob10⟩ := j10.st.obj
    refine ⟨_, rfl, a, dx10, _, rfl, ob10, rfl, a, ta, la, sd, S2, Ls, T, L, kv, rfl, j10.st, hht20, j10.con, j10.sz', fun H11 bf s11 hbf0 fz11 => ?_⟩
    have j11 := j10.same s11
    obtain ⟨ps, hps, hpn, hat⟩ := j11.cx.paths.at
    refine ⟨_, rfl, _, rfl, pl, _, rfl, .inl (SqL.of hps), tp, ca, ps.length, rfl, j11.t, by omega, by omega, fun H12 i hi R12 => ?_⟩
    have j12 := j11.rn R12
    obtain ⟨p, hp⟩ := lv_get (show i < T.lf by omega)
    have hpl := len hp
    obtain ⟨ps2, hps2, hpn2, hat2⟩ := j12.cx.paths.at
    obtain ⟨b, hb1, hb2⟩ := hat2 _ _ hp
    refine gn0 ?_
    dsimp only
    refine q_asg0 (cb0 (cons0 ?_))
    refine lc_ranks (m := mn) (n := ((p.length + 1 : Nat) : Int)) j12.t (ea_cons (ev_is (ev_op (ev_lenT (ev_op (ev_var rfl) (ev_var rfl) (rv_ixL (SqL.of hps2) (atI_nat hb1))) hb2) ev_c rv_I0) (by rw [intsN_len]; congr 1)) ea_nil) (by omega) (fun _ => rfl) (fun _ => rfl) (fun _ => rfl) fun H13 D9 as nss R13 hD90 hD9 hal hP => ?_
    have hal' : as.length = p.length + 1 := by rw [hal]; omega
    refine ⟨D9, _, rfl, .inl ⟨SqL.of hD9, fun z hz => ?_⟩⟩
    have e14 : Ex H13 (upd H13 z (.tup (as.map V.ref))) := Ex.new hz
    have h14 : (upd H13 z (.tup (as.map V.ref))) z = some (.tup (as.map V.ref)) := upd_same
    revert e14 h14
    generalize upd H13 z (.tup (as.map V.ref)) = H14
    intro e14 h14
    have R14 := R13.same e14
    have j14 := j12.rn R14
    have zS : z ∉ S2 := alS (j12.rn R13) z hz
    have hP14 : Paired (fun x ns => H14 x = some (.tup (ns.map V.int)) ∧ x ∉ S2 ∧ RankI ns) as nss := Paired.weak (fun x ns y => ⟨e14 _ _ y.1, alS j12 x y.2.1, y.2.2⟩) hP
    have R1014 : Rn K tp ca H10 H14 := (Rn.of j10.t s11).trans (R12.trans R14)
    have hQ14 : QsL H14 Dl T ns := ⟨R1014.at hQ10.1 nDt, hQ10.2⟩
    have fz14 : FrzT H14 bf (ord T L) := fz11.rn (R12.trans R14)
    obtain ⟨dx14, ob14⟩ := j14.st.obj
    refine ⟨_, rfl, a, dx14, _, rfl, ob14, rfl, _, rfl, Dl, _, rfl, .inl (SqL.of hQ14.1), _, rfl, _, rfl, ?_⟩
    dsimp only [tNil]
    rw [List.length_map]
    show spPushQ K C CS [.ref a, .int (ns.length : Nat), .int (i : Nat), .ref z] H14 _ _
    refine push_use j14 pk10.out (by omega) hp h14 zS hal' hP14 (by omega) fun H15 g15 j15 hnss => ?_
    have pk15 := pk10.psh j10.con hp hnss
    have fz15 : FrzT H15 bf (ord T L) := fz14.go g15 j14.nfrz
    have hQ15 : QsL H15 Dl T ns := ⟨g15.at hQ14.1 nDS, hQ14.2⟩
    obtain ⟨dx15, ob15⟩ := j15.st.obj
    refine ⟨_, rfl, a, dx15, _, rfl, ob15, rfl, a, ta, la, sd, S2, Ls, T, _, _, rfl, j15.st, hht20, j15.con, j15.sz', fun H16 af s16 haf0 fz16 => ?_⟩
    have hQ16 : QsL H16 Dl T ns := ⟨s16 _ _ hQ15.1, hQ15.2⟩
    refine ⟨_, rfl, .inl ⟨rfl, _, SqL.of hQ16.1⟩, _, rfl, Dl, _, _, rfl, rfl, hQ16.1, small1000 (by rw [List.length_map]; omega), ?_⟩
    have j17 := kD D_in2 (j15.same s16) (o := .lst (ns.map (fun i => V.int (i : Nat)) ++ [.int (i : Nat)]))
    have hQ17 : QsL (upd H16 Dl (.lst (ns.map (fun i => V.int (i : Nat)) ++ [.int (i : Nat)]))) Dl T (ns ++ [i]) := ⟨by rw [upd_same, List.map_append]; rfl, fun x hx => by
      rcases List.mem_append.mp hx with hx | hx
      · exact hQ16.2 x hx
      · rw [List.mem_singleton.mp hx]
        omega⟩
    have old17 : Old H tp (upd H16 Dl (.lst (ns.map (fun i => V.int (i : Nat)) ++ [.int (i : Nat)]))) := oldD (((old10.rn R1014).go g15 new5).same s16)
    have nfD : ∀ y ∈ [Dl], ∀ ob xs, H16 y ≠ some (.frz ob (.tup xs)) := fun y hy ob xs e => by
      rw [List.mem_singleton.mp hy, hQ16.1] at e
      exact nomatch e
    have fb17 := (fz15.same s16).go (GoS.refl.upd (List.mem_singleton.mpr rfl) : GoS [Dl] H16 (upd H16 Dl (.lst (ns.map (fun i => V.int (i : Nat)) ++ [.int (i : Nat)])))) nfD
    have fa17 := fz16.go (GoS.refl.upd (List.mem_singleton.mpr rfl) : GoS [Dl] H16 (upd H16 Dl (.lst (ns.map (fun i => V.int (i : Nat)) ++ [.int (i : Nat)])))) nfD
    have A17 : AskD (upd H16 Dl (.lst (ns.map (fun i => V.int (i : Nat)) ++ [.int (i : Nat)]))) ad (500 * t) := by
      obtain ⟨kvs, h1, h2, h3⟩ := A10
      exact ⟨kvs, by rw [upd_ne nAD]; exact s16 _ _ (g15.at (R1014.at h1 nAt) nAS), h2, h3⟩
    revert j17 hQ17 old17 fb17 fa17 A17
    generalize upd H16 Dl (.lst (ns.map (fun i => V.int (i : Nat)) ++ [.int (i : Nat)])) = H17
    intro j17 hQ17 old17 fb17 fa17 A17
    have hln : (ns ++ [i]).length = ns.length + 1 := by rw [List.length_append]; rfl
    have hlm : ((ns ++ [i]).map fun i => V.int (i : Nat)).length = ns.length + 1 := by rw [List.length_map, hln]
    -- both orders hold all packets
    have rng : ∀ n : Nat, (List.range n).map (fun k => V.int ((k : Nat) : Int)) = ((List.range n).map fun k => ((k : Nat) : Int)).map V.int := fun n => by rw [List.map_map]; rfl
    have srt : ∀ (H' : Hp) (x : Addr) (L' : Lns) (ms : List Nat), PK T L' ms → ms.length ≤ 40 → FrzT H' x (ord T L') → ∀ (y : Addr) (H'' : Hp) (xs : List Int), xs.Perm (ord T L') → xs.Pairwise (· ≤ ·) → xs = (List.range ms.length).map fun k => ((k : Nat) : Int) := fun H' x L' ms pk _ _ y H'' xs h1 h2 => pk.sorted h1 h2
    have ol : (ord T L).length < 64 := by rw [pk10.pm.length_eq, List.length_map, List.length_range]; omega
    have ol' : (ord T (pshL p nss (ns.length : Nat) L)).length < 64 := by rw [pk15.pm.length_eq, List.length_map, List.length_range]; omega
    have cmp : ∀ {σ' : L2.St} {H' : Hp} {x : Addr} {L' : Lns} {ms : List Nat} {ix : Nat} {tl : TE}, σ'[ix]? = some (some (.ref x)) → FrzT H' x (ord T L') → PK T L' ms → (ord T L').length < 64 → EvL tl σ' H' ((List.range ms.length).map fun k => V.int (k : Nat)) → EvT (tTest (tOp (rNeD K) (tCB (rSortTI K) (tCons (tVar ix) tNil)) tl)) σ' H' false := fun {σ' H' x L' ms ix tl} hx fz pk hl he H1 e Q' q' => ⟨.ref x, hx, x, _, rfl, (fz.same e).sqt, hl, fun xs p h1 h2 hp0 => by
      obtain rfl := pk.sorted h1 h2
      have e2 := Ex.new (o := .lst (((List.range ms.length).map fun k => ((k : Nat) : Int)).map V.int)) hp0
      refine he _ (e.trans e2) _ fun p2 H3 hp2 e3 h3 => ?_
      refine ⟨_, _, dp_intL (SqL.of (e3 _ _ upd_same)), dp_intL (SqL.of (by rw [h3, rng])), shaped_intsL _, shaped_intsL _, _, rfl, ?_⟩
      rw [eqv_intsL, decide_eq_true rfl]
      exact q' H3 (e2.trans e3)⟩
    refine q_when (b := false) (et_is (et_or (cmp (L' := pshL p nss (ns.length : Nat) L) (ms := ns ++ [i]) rfl fa17 pk15 ol' (el_is (el_lcR1 (n := ((ns.length + 1 : Nat) : Int)) (fun _ => true) (fun k => V.int (k : Nat)) (ea_cons (ev_is (ev_len (ev_var rfl) (SqL.of hQ17.1)) (by rw [hlm])) ea_nil) (by omega) (fun _ => rfl) (fun _ _ _ _ => et_yes) (fun i H1 _ hi _ => ev_var rfl)) (by rw [given_all, hln]; rfl))) fun _ => cmp (L' := L) (ms := ns) rfl fb17 pk10 ol (el_is (el_lcR1 (n := (ns.length : Nat)) (fun _ => true) (fun k => V.int (k : Nat)) (ea_cons (ev_is (ev_op (ev_len (ev_var rfl) (SqL.of hQ17.1)) ev_c rv_I0) (by rw [hlm]; congr 1; omega)) ea_nil) (by omega) (fun _ => rfl) (fun _ _ _ _ => et_yes) (fun i H1 _ hi _ => ev_var rfl)) (by rw [given_all]; rfl))) rfl) (fun z => nomatch z) fun _ H18 e18 => ?_
    have j18 := j17.same e18
    have hQ18 : QsL H18 Dl T (ns ++ [i]) := ⟨e18 _ _ hQ17.1, hQ17.2⟩
    let IVP : Hp → Nat → Prop := fun (H' : Hp) (c : Nat) => Old H tp H' ∧ JS K C CS S2 H' tp ca fv pl a ta la sd Ls T (pshL p nss (ns.length : Nat) L) (putK kv (Sum.inl ((ns.length : Nat) : Int) : Key) (.int (i : Nat))) (ns.length + 1) ∧ QsL H' Dl T (ns ++ [i]) ∧ FrzT H' bf (ord T L) ∧ FrzT H' af (ord T (pshL p nss (ns.length : Nat) L)) ∧ AskD H' ad c
    have hk2 : ∀ {H' : Hp} {kvs : List (List Key × V)} {kt : Addr} {ys : List V}, H' ad = some (.dT kvs) → H' kt = some (.tup ys) → kt ≠ ad := fun h1 h2 e => by
      rw [e, h1] at h2
      exact nomatch h2
    have ivs : ∀ {H' H'' : Hp} {c : Nat}, IVP H' c → Same H' H'' → IVP H'' c := fun ⟨a1, a2, a3, a4, a5, kvs, a6, a7, a8⟩ e => ⟨a1.same e, a2.same e, ⟨e _ _ a3.1, a3.2⟩, a4.same e, a5.same e, kvs, e _ _ a6, a7, a8⟩
    have ivp : ∀ {H' : Hp} {c : Nat} {kvs : List (List Key × V)} {key : List Key}, IVP H' c → H' ad = some (.dT kvs) → IVP (upd H' ad (.dT (putK kvs key (.bl true)))) (c + 1) := fun {H' c kvs key} ⟨a1, a2, a3, a4, a5, kvs', a6, a7, a8⟩ e => by
      rw [a6] at e
      injection e with e
      injection e with e
      subst e
      have g : GoS [ad] H' (upd H' ad (.dT (putK kvs' key (.bl true)))) := GoS.refl.upd (List.mem_singleton.mpr rfl)
      have nf : ∀ y ∈ [ad], ∀ ob xs, H' y ≠ some (.frz ob (.tup xs)) := fun y hy ob xs e => by
        rw [List.mem_singleton.mp hy, a6] at e
        exact nomatch e
      refine ⟨a1.go g (fun y hy => by rw [List.mem_singleton.mp hy]; exact hA0), a2.keep g (fun y hy => by rw [List.mem_singleton.mp hy]; exact A_in2) (fun y hy => by rw [List.mem_singleton.mp hy]; exact nAS) (fun z => nAt (List.mem_singleton.mp z).symm), ⟨g.at a3.1 (fun z => nAD (List.mem_singleton.mp z).symm), a3.2⟩, a4.go g nf, a5.go g nf, _, upd_same, ?_, fun k v h => ?_⟩
      · have := putK_leG kvs' key (.bl true)
        omega
      · rw [valV_putG] at h
        by_cases e : k = key
        · rw [if_pos e] at h
          exact (Option.some.inj h).symm
        · rw [if_neg e] at h
          exact a8 k v h
    have iv18 : IVP H18 (500 * t) := ⟨old17.same e18, j18, hQ18, fb17.same e18, fa17.same e18, A17.same e18⟩
    refine ⟨_, rfl, Dl, _, rfl, .inl (SqL.of hQ18.1), _, _, rfl, rfl, ⟨((ns.length : Nat) : Int), congrArg (fun z : Int => [V.int z]) (by rw [hlm]; omega), by omega, by omega, for_range (lo := 0) (n := ns.length) (fun k σ H' => ∃ o5 o7 o8 o12 o14 o15, σ = [some (.ref tp), some fv, some (.ref pl), some (.ref a), some (.int (mn : Nat)), o5, some (.ref Dl), o7, o8, some (.ref ad), some (.ref bf), some (.int (i : Nat)), o12, some (.ref af), o14, o15] ∧ IVP H' (500 * t + 20 * k)) ⟨_, _, _, _, _, _, rfl, iv18⟩ ?_ ?_⟩⟩
    · rintro k σ H19 hk ⟨o5, o7, o8, o12, o14, o15, rfl, iv19⟩
      rw [show (0 + (k : Int)) = ((k : Nat) : Int) from Int.zero_add _]
      refine ⟨_, rfl, ⟨((k : Nat) : Int), rfl, by omega, by omega, for_range (lo := 0) (n := k) (fun m σ H' => ∃ o7 o8 o12 o14 o15, σ = [some (.ref tp), some fv, some (.ref pl), some (.ref a), some (.int (mn : Nat)), some (.int (k : Nat)), some (.ref Dl), o7, o8, some (.ref ad), some (.ref bf), some (.int (i : Nat)), o12, some (.ref af), o14, o15] ∧ IVP H' (500 * t + 20 * k + m)) ⟨_, _, _, _, _, rfl, iv19⟩ ?_ ?_⟩⟩
      · rintro m σ H20 hm ⟨o7, o8, o12, o14, o15, rfl, iv20⟩
        rw [show (0 + (m : Int)) = ((m : Nat) : Int) from Int.zero_add _]
        obtain ⟨x, hx⟩ := pk10.at (show m < ns.length by omega)
        obtain ⟨y, hy⟩ := pk10.at (show k < ns.length by omega)
        obtain ⟨x', hx'⟩ := pk15.at (show m < (ns ++ [i]).length by omega)
        obtain ⟨y', hy'⟩ := pk15.at (show k < (ns ++ [i]).length by omega)
        have i20 := iv20
        obtain ⟨b1, b2, b3, b4, b5, b6⟩ := iv20
        refine ⟨_, rfl, _, rfl, _, rfl, _, rfl, bf, af, _, _, ord T L, ord T (pshL p nss (ns.length : Nat) L), x, y, x', y', rfl, b4, b5, pk10.nd, pk15.nd, hx, hy, hx', hy', _, rfl, ?_⟩
        by_cases tr : decide (x < y) = decide (x' < y')
        · rw [decide_eq_false (fun z => z tr)]
          exact iteF ⟨_, _, _, _, _, rfl, b1, b2, b3, b4, b5, b6.mono (by omega)⟩
        rw [decide_eq_true tr]
        refine iteT ?_
        obtain ⟨hqm, q1, hq1⟩ := b3.at (show m < (ns ++ [i]).length by omega)
        obtain ⟨hqk, q2, hq2⟩ := b3.at (show k < (ns ++ [i]).length by omega)
        have hmb : mayB p q1 q2 = true := by
          cases e : mayB p q1 q2 with
          | true => rfl
          | false =>
            have hq1' := hq1
            have hq2' := hq2
            rw [getD_left (by omega)] at hq1' hq2'
            exact absurd (pk10.turn j10.con hp hnss (show m < ns.length by omega) (show k < ns.length by omega) hq1' hq2' e hx hy hx' hy') tr
        refine ⟨_, rfl, _, rfl, _, rfl, Dl, _, _, _, rfl, rfl, SqL.of b3.1, hqm, _, rfl, _, rfl, Dl, _, _, _, rfl, rfl, SqL.of b3.1, hqk, (by show 3 ≤ sizeLine; decide), fun kt hkt => ?_⟩
        have e21 := same_new (o := .tup [.int (i : Nat), .int ((ns ++ [i]).getD m 0 : Nat), .int ((ns ++ [i]).getD k 0 : Nat)]) hkt
        have h21 : (upd H20 kt (.tup [.int (i : Nat), .int ((ns ++ [i]).getD m 0 : Nat), .int ((ns ++ [i]).getD k 0 : Nat)])) kt = some (.tup (([Sum.inl ((i : Nat) : Int), Sum.inl (((ns ++ [i]).getD m 0 : Nat) : Int), Sum.inl (((ns ++ [i]).getD k 0 : Nat) : Int)] : List Key).map kV)) := upd_same
        have iv21 := ivs i20 e21
        revert h21 iv21
        generalize upd H20 kt (.tup [.int (i : Nat), .int ((ns ++ [i]).getD m 0 : Nat), .int ((ns ++ [i]).getD k 0 : Nat)]) = H21
        generalize ([Sum.inl ((i : Nat) : Int), Sum.inl (((ns ++ [i]).getD m 0 : Nat) : Int), Sum.inl (((ns ++ [i]).getD k 0 : Nat) : Int)] : List Key) = key
        intro h21 iv21
        have i21 := iv21
        obtain ⟨c1, c2, c3, c4, c5, kvs, c6, c7, c8⟩ := iv21
        refine ⟨_, rfl, _, rfl, _, rfl, _, rfl, Dl, _, _, _, rfl, rfl, SqL.of c3.1, hqm, _, rfl, _, rfl, Dl, _, _, _, rfl, rfl, SqL.of c3.1, hqk, pl, T, i, _, _, p, q1, q2, rfl, c2.cx.paths, hht20, hp, hq1, hq2, ?_⟩
        rw [hmb]
        refine ⟨_, rfl, iteF ?_⟩
        refine ⟨fun σ' H' => ∃ o7 o8 o12 o14, σ' = [some (.ref tp), some fv, some (.ref pl), some (.ref a), some (.int (mn : Nat)), some (.int (k : Nat)), some (.ref Dl), o7, o8, some (.ref ad), some (.ref bf), some (.int (i : Nat)), o12, some (.ref af), o14, some (.ref kt)] ∧ IVP H' (500 * t + 20 * k + (m + 1)) ∧ H' kt = some (.tup (key.map kV)) ∧ ∃ kvs, H' ad = some (.dT kvs) ∧ valV kvs key = some (.bl true), ?_, ?_⟩
        · refine ⟨_, rfl, _, rfl, ad, _, rfl, DGet.t c6 h21, _, rfl, ?_⟩
          cases e : valV kvs key with
          | some v =>
            obtain rfl := c8 _ _ e
            refine iteF ⟨_, _, _, _, rfl, ⟨c1, c2, c3, c4, c5, kvs, c6, by omega, c8⟩, h21, kvs, c6, e⟩
          | none =>
            refine iteT ?_
            refine ⟨_, rfl, _, rfl, _, rfl, _, rfl, Dl, _, _, _, rfl, rfl, SqL.of c3.1, hqm, _, rfl, _, rfl, Dl, _, _, _, rfl, rfl, SqL.of c3.1, hqk, fv, T, i, _, _, p, q1, q2, rfl, c2.cx.form, c2.cx.z, c2.cx.g, hht20, by have := c2.cx.n; omega, hp, hq1, hq2, fun H22 s22 => ?_⟩
            rw [hmb]
            have i22 := ivs i21 s22
            have c6' := s22 _ _ c6
            have h22 := s22 _ _ h21
            refine ⟨_, rfl, _, rfl, ad, _, rfl, DPut.t c6' h22 (by have := sizeLine_eq; omega), ?_⟩
            refine ⟨_, _, _, _, rfl, ivp i22 c6', ?_, _, upd_same, ?_⟩
            · rw [upd_ne (hk2 c6' h22)]
              exact h22
            · rw [valV_putG, if_pos rfl]
        · rintro σ' H22 ⟨o7, o8, o12, o14, rfl, iv22, h22, kvs, c6, e⟩
          refine ⟨_, rfl, _, rfl, ad, _, rfl, e ▸ DGet.t c6 h22, _, _, rfl, rfl, _, rfl, ?_⟩
          rw [decide_eq_true rfl]
          exact iteF ⟨_, _, _, _, _, rfl, iv22⟩
      · rintro σ H20 ⟨o7, o8, o12, o14, o15, rfl, b1, b2, b3, b4, b5, b6⟩
        exact ⟨_, _, _, _, _, _, rfl, b1, b2, b3, b4, b5, b6.mono (by omega)⟩
    · rintro σ H19 ⟨o5, o7, o8, o12, o14, o15, rfl, b1, b2, b3, b4, b5, b6⟩
      exact ⟨_, _, _, _, _, _, _, _, _, _, _, ns ++ [i], rfl, b1, by rw [hln]; exact b2, pk15, b3, by omega, b6.mono (by omega)⟩
  · rintro σ H10 ⟨o5, o7, o8, o10, o11, o12, o13, o14, o15, L, kv, ns, rfl, old10, j10, pk10, hQ10, hnl, A10⟩
    refine q H10 ⟨hT, j10.t, fun y u e => ?_⟩
    by_cases z : y = tp
    · rw [z, del_same] at e
      exact nomatch e
    · rw [del_ne z] at e ⊢
      exact old10 y u e z
end
end K27
set_option Elab.async false
set_option linter.all false
set_option maxRecDepth 100000
set_option maxHeartbeats 8000000
namespace K27
open PySem PySem.Spec PyProof.Rows L2 Evl
open Dt (sub sub_nil sub_app sub_one sub_pre lcp lcp_le lcp_pre lv ad sub_ad isLf isLf_o idx_lt ad_len idx_of)
/-! ### _law_refused -/
/-- what is built of tuples and of other values -/
def EvD (K : PySem.W.Frag) (te : TE) (σ : L2.St) (t : Dt) : Prop := ∀ (H1 : Hp) (Q : VK), (∀ v H2, Ex H1 H2 → DtV K H2 v t → Q v H2) → te σ H1 Q
def EvDs (K : PySem.W.Frag) (ta : TA) (σ : L2.St) (t : Dt) : Prop := ∀ (H1 : Hp) (Q : List V → Hp → Prop), (∀ vs H2, Ex H1 H2 → DtF K H2 vs t → vs.length = t.len → Q vs H2) → ta σ H1 Q
section
variable {K : PySem.W.Frag} {σ : L2.St} {ta : TA} {te : TE} {t r : Dt}
theorem dtf_cons {H : Hp} {v : V} {vs : List V} (h : DtV K H v t) (q : DtF K H vs r) : DtF K H (v :: vs) (.c t r) := by
  rcases h with ⟨rfl, s, h1, h2⟩ | ⟨a, ws, rfl, h1, h2⟩
  · exact .bad h1 h2 q
  · exact .tup h1 h2 q
theorem ed_nil : EvDs K tNil σ .o := fun H1 Q q => q [] H1 (Ex.refl H1) .nil rfl
theorem ed_cons (h : EvD K te σ t) (g : EvDs K ta σ r) : EvDs K (tCons te ta) σ (.c t r) := fun H1 Q q =>
  h H1 _ fun v H2 e2 h2 => g H2 _ fun vs H3 e3 h3 hl => q (v :: vs) H3 (e2.trans e3) (dtf_cons (same_dtv e3 h2) h3) (congrArg (· + 1) hl)
theorem ed_tup (h : EvDs K ta σ t) (hl : t.len ≤ 1000) : EvD K (tTup ta) σ t := fun H1 Q q =>
  h H1 _ fun vs H2 e2 h2 hv => ⟨by rw [hv]; have := sizeLine_eq; omega, fun p hp => q (.ref p) _ (e2.trans (Ex.new hp)) (.inr ⟨p, vs, rfl, SqT.of upd_same, same_dtf (Ex.new hp) h2⟩)⟩
theorem ed_lst : EvD K (tLst tNil) σ .x := fun H1 Q q => ⟨by show 0 ≤ sizeLine; decide, fun p hp => q (.ref p) _ (Ex.new hp) (.inl ⟨rfl, "list", kind_lst upd_same, by decide⟩)⟩
theorem ed_c {v : V} {s : String} (h : ∀ H, KindV K H v s) (hs : s ≠ "tuple") : EvD K (tC v) σ .x := fun H1 Q q => q v H1 (Ex.refl H1) (.inl ⟨rfl, s, h H1, hs⟩)
end
def refD (z : Str) : PyData := .tuple [.str "refused", .str z, .int (-1)]
theorem ref_eqv (z : Str) : PyData.eqv (refD z) (refD z) = true := by
  unfold refD
  simp [PyData.eqv, PyData.eqvAll]
theorem ev_ask {K : PySem.W.Frag} {C U : Addr} {σ : L2.St} {H : Hp} {ta : TA} {vs : List V} {z : Str} {E : XK} (hz : SeqAt.shaped (refD z) = true) (h : EvA ta σ H vs) (hs : ∀ H1, Ex H H1 → ∀ (Q : VK) (E : XK), Refd K H1 Q z → spAsk K C U vs H1 Q E) :
    EvT (tTest (tOp (rNeD K) (tCall (spAsk K C U) [] E ta) (tTup (tCons (tC (.str "refused")) (tCons (tC (.str z)) (tCons (tUn (rU fun i => .int (-i)) (tC (.int 1))) tNil)))))) σ H false := fun H1 e Q q =>
  h H1 e _ fun H2 e2 => by
    show spAsk K C U (vs ++ []) H2 _ _
    rw [List.append_nil]
    refine hs H2 (e.trans e2) _ _ fun v H3 s3 hv => ?_
    refine ⟨1, rfl, (by show 3 ≤ sizeLine; decide), fun p hp => ?_⟩
    have s4 := Ex.new (o := .tup [.str "refused", .str z, .int (-1)]) hp
    refine ⟨refD z, refD z, hv _ (fun b u _ h => s4 b u h), .tup (SqT.of upd_same) (.cons (.str _) (.cons (.str _) (.cons (.int _) .nil))), hz, hz, _, rfl, ?_⟩
    rw [ref_eqv]
    exact q _ (e2.trans (Ex.trans s3 s4))
theorem q_forD {K : PySem.W.Frag} {ta : TA} {g : TG} {tu tz : TS} {D : Ends} {σ : L2.St} {H : Hp} (h : ta σ H fun vs H2 => vs.length ≤ sizeLine ∧ ∀ p, H2 p = none → tFor (iTup K (fun _ H Q => Q (.ref p) H)) g tu { D with nx := tz D } σ (upd H2 p (.tup vs))) : tSeq (tFor (iTup K (tTup ta)) g tu) tz D σ H := h
theorem ev_op0 {σ : L2.St} {H : Hp} {i : Int} {v : V} (h : v = .int (-i)) : Ev (tUn (rU fun i => .int (-i)) (tC (.int i))) σ H v := h ▸ ev_un ev_c ru_neg
theorem paired_at {α β : Type} {F : α → β → Prop} : ∀ {a : List α} {b : List β}, Paired F a b → ∀ {i : Nat} {x : α}, a[i]? = some x → ∃ y, b[i]? = some y ∧ F x y
  | _, _, .nil, i, x, h => by simp at h
  | _, _, .cons r t, 0, x, h => by
    have : _ = x := Option.some.inj h
    subst this
    exact ⟨_, rfl, r⟩
  | _, _, .cons r t, i + 1, x, h => paired_at t (i := i) (x := x) (by simpa using h)
structure FormC (K : PySem.W.Frag) (H : Hp) (fv : V) (T : Dt) : Prop where
  v : DtV K H fv T
  g : T.good 1 = true
  h : T.ht < 20
  n : T.nodes ≤ 1000
  z : T.size ≤ 100000
theorem FormC.same {K : PySem.W.Frag} {H H' : Hp} {fv : V} {T : Dt} (c : FormC K H fv T) (e : Same H H') : FormC K H' fv T := ⟨same_dtv e c.v, c.g, c.h, c.n, c.z⟩
section
variable {K : PySem.W.Frag} {C U : Addr} {H : Hp} {b : Bool} {fv x y z : V} {T t : Dt} {o o1 o2 : Option Int} {Q : VK} {E : XK}
theorem bad_form (hv : DtV K H x t) (hz : t.size ≤ 100000) (hg : t.good 1 = false) {o3 : Option Int} {u : V} (h1 : NumV K H y o1) (h2 : NumV K H z o2) (h3 : NumV K H u o3) (q : Refd K H Q "form") : spAsk K C U [.bl b, x, y, z, u] H Q E :=
  ⟨b, x, y, z, u, t, o1, o2, o3, rfl, hv, hz, (fun g => by rw [hg] at g; exact nomatch g), h1, h2, h3, (fun _ => q), (fun g => by rw [hg] at g; exact nomatch g), (fun g => by rw [hg] at g; exact nomatch g), (fun g => by rw [hg] at g; exact nomatch g), fun g => by rw [hg] at g; exact nomatch g⟩
theorem bad_queue (c : FormC K H fv T) (h1 : NumV K H x o) (hb : belowB (T.lf : Nat) o = false) (h2 : NumV K H y o1) (h3 : NumV K H z o2) (q : Refd K H Q "queue") : spAsk K C U [.bl b, fv, x, y, z] H Q E :=
  ⟨b, fv, x, y, z, T, o, o1, o2, rfl, c.v, c.z, (fun _ => ⟨c.h, c.n⟩), h1, h2, h3, (fun g => by rw [c.g] at g; exact nomatch g), (fun _ _ => q), (fun _ g => by rw [hb] at g; exact nomatch g), (fun _ g => by rw [hb] at g; exact nomatch g), by
    intro _ i' j' k' p q1 q2 e1 e2 e3 hp hq1 hq2 H' s
    have : i' < T.lf := (List.getElem?_eq_some_iff.mp hp).1
    have ee : o = some ((i' : Nat) : Int) := e1
    rw [ee, below_lt this] at hb
    exact nomatch hb⟩
theorem bad_one (c : FormC K H fv T) {i : Nat} (hi : i < T.lf) (h2 : NumV K H y o1) (hb : belowB (T.lf : Nat) o1 = false) (h3 : NumV K H z o2) (q : Refd K H Q "one") : spAsk K C U [.bl b, fv, .int (i : Nat), y, z] H Q E :=
  ⟨b, fv, _, y, z, T, some (i : Nat), o1, o2, rfl, c.v, c.z, (fun _ => ⟨c.h, c.n⟩), rfl, h2, h3, (fun g => by rw [c.g] at g; exact nomatch g), (fun _ g => by rw [below_lt hi] at g; exact nomatch g), (fun _ _ _ => q), (fun _ _ g => by rw [hb] at g; exact nomatch g), by
    intro _ i' j' k' p q1 q2 e1 e2 e3 hp hq1 hq2 H' s
    have : j' < T.lf := (List.getElem?_eq_some_iff.mp hq1).1
    have ee : o1 = some ((j' : Nat) : Int) := e2
    rw [ee, below_lt this] at hb
    exact nomatch hb⟩
theorem bad_other (c : FormC K H fv T) {i j : Nat} (hi : i < T.lf) (hj : j < T.lf) (h3 : NumV K H z o2) (hb : belowB (T.lf : Nat) o2 = false) (q : Refd K H Q "other") : spAsk K C U [.bl b, fv, .int (i : Nat), .int (j : Nat), z] H Q E :=
  ⟨b, fv, _, _, z, T, some (i : Nat), some (j : Nat), o2, rfl, c.v, c.z, (fun _ => ⟨c.h, c.n⟩), rfl, rfl, h3, (fun g => by rw [c.g] at g; exact nomatch g), (fun _ g => by rw [below_lt hi] at g; exact nomatch g), (fun _ _ g => by rw [below_lt hj] at g; exact nomatch g), (fun _ _ _ _ => q), by
    intro _ i' j' k' p q1 q2 e1 e2 e3 hp hq1 hq2 H' s
    have : k' < T.lf := (List.getElem?_eq_some_iff.mp hq2).1
    have ee : o2 = some ((k' : Nat) : Int) := e3
    rw [ee, below_lt this] at hb
    exact nomatch hb⟩
end
/-- the forms that are none -/
def badF : Dt := .c .x (.c .x (.c (.c .o (.c .x .o)) (.c (.c .o (.c .o (.c .o (.c .o (.c .o (.c .o (.c .o .o))))))) (.c .x (.c .x (.c (.c (.c .o (.c .x .o)) .o) .o))))))
theorem badF_bad : ∀ k ∈ badF.kids, k.good 1 = false ∧ k.size ≤ 100000 := by decide +kernel
def spRefused (K : PySem.W.Frag) : Sp := fun vs H Q _ => ∃ (fv : V) (T : Dt), vs = [fv, .int (T.lf : Nat)] ∧ FormC K H fv T ∧ T.lf ≤ 100 ∧ ∀ H', Same H H' → Q (.bl true) H'
section
variable {P : Program} {w : World} {K : PySem.W.Frag} {mg : Str → Option Value} {base : Heap} {C U : Addr}
theorem ok_refused (D : DefAt K mg "_law_refused" s_law_refused ["form", "many"]) (T0 : Txt K mg) (GAsk : CalX P w K mg base CX0 25 "_law_ask" ["named", "form", "queue", "one", "other"] (spAsk K C U)) :
    CalX P w K mg base CX0 26 "_law_refused" ["form", "many"] (spRefused K) := by
  refine D.ok sc_law_refused (fun vs H Q E h => ?_) (fun f cdv A outer s H vs Q E hr h => ?_)
  · obtain ⟨fv, T, rfl, _⟩ := h
    rfl
  obtain ⟨fv, T, rfl, fc, hlf, q⟩ := h
  have lp := lf_pos T
  refine ⟨_, (pss_cons (ps_for PassesOwn.never rfl (pi_tup (pe_tup (pa_cons (pe_lst pa_nil) (pa_cons pe_non (pa_cons (pe_tup (pa_cons (pe_tup pa_nil) (pa_cons (pe_lst pa_nil) pa_nil))) (pa_cons (pe_tup (pa_cons (pe_tup pa_nil) (pa_cons (pe_tup pa_nil) (pa_cons (pe_tup pa_nil) (pa_cons (pe_tup pa_nil) (pa_cons (pe_tup pa_nil) (pa_cons (pe_tup pa_nil) (pa_cons (pe_tup pa_nil) pa_nil)))))))) (pa_cons pe_int (pa_cons pe_str (pa_cons (pe_tup (pa_cons (pe_tup (pa_cons (pe_tup pa_nil) (pa_cons pe_bl pa_nil))) pa_nil)) pa_nil))))))))) (pg_name (i := 2) sc_law_refused.nd rfl (Or.inl rfl)) 
      (pss_one (ps_for PassesOwn.never rfl (pi_tup (pe_tup (pa_cons pe_bl (pa_cons pe_bl pa_nil)))) (pg_name (i := 3) sc_law_refused.nd rfl (Or.inl rfl)) 
        (pss_one (ps_if (pt_cmpR (op_neD hr.units) (pe_c0 GAsk hr (by decide) rfl (pa_cons (pv 3) (pa_cons (pv 2) (pa_cons (pv 1) (pa_cons (pe_un un_neg pe_int) (pa_cons pe_non pa_nil)))))) (pe_tup (pa_cons pe_str (pa_cons pe_str (pa_cons (pe_un un_neg pe_int) pa_nil)))) (nomark _)) 
          (pss_one (ps_ret pe_bl)) pss_nil))))) 
    (pss_cons (ps_for PassesOwn.never rfl (pi_tup (pe_tup (pa_cons (pv 1) (pa_cons (pe_un un_neg pe_int) (pa_cons pe_bl (pa_cons pe_bl (pa_cons pe_non (pa_cons (pe_tup (pa_cons pe_int pa_nil)) (pa_cons pe_str pa_nil))))))))) (pg_name (i := 2) sc_law_refused.nd rfl (Or.inl rfl)) 
      (pss_one (ps_for PassesOwn.never rfl (pi_tup (pe_tup (pa_cons pe_bl (pa_cons pe_bl pa_nil)))) (pg_name (i := 3) sc_law_refused.nd rfl (Or.inl rfl)) 
        (pss_cons (ps_if (pt_cmpR (op_neD hr.units) (pe_c0 GAsk hr (by decide) rfl (pa_cons (pv 3) (pa_cons (pv 0) (pa_cons (pv 2) (pa_cons (pv 1) (pa_cons (pv 2) pa_nil)))))) (pe_tup (pa_cons pe_str (pa_cons pe_str (pa_cons (pe_un un_neg pe_int) pa_nil)))) (nomark _)) 
          (pss_one (ps_ret pe_bl)) pss_nil) 
        (pss_cons (ps_if (pt_cmpR (op_neD hr.units) (pe_c0 GAsk hr (by decide) rfl (pa_cons (pv 3) (pa_cons (pv 0) (pa_cons (pe_op op_sub (pv 1) pe_int) (pa_cons (pv 2) (pa_cons (pv 1) pa_nil)))))) (pe_tup (pa_cons pe_str (pa_cons pe_str (pa_cons (pe_un un_neg pe_int) pa_nil)))) (nomark _)) 
          (pss_one (ps_ret pe_bl)) pss_nil) 
        (pss_one (ps_if (pt_cmpR (op_neD hr.units) (pe_c0 GAsk hr (by decide) rfl (pa_cons (pv 3) (pa_cons (pv 0) (pa_cons pe_int (pa_cons (pe_op op_sub (pv 1) pe_int) (pa_cons (pv 2) pa_nil)))))) (pe_tup (pa_cons pe_str (pa_cons pe_str (pa_cons (pe_un un_neg pe_int) pa_nil)))) (nomark _)) 
          (pss_one (ps_ret pe_bl)) pss_nil))))))) 
    (pss_one (ps_ret pe_bl)))), ?_⟩
  have bads : EvDs K (tCons (tLst tNil) (tCons (tC .non) (tCons (tTup (tCons (tTup tNil) (tCons (tLst tNil) tNil))) (tCons (tTup (tCons (tTup tNil) (tCons (tTup tNil) (tCons (tTup tNil) (tCons (tTup tNil) (tCons (tTup tNil) (tCons (tTup tNil) (tCons (tTup tNil) tNil)))))))) (tCons (tC (.int 0)) (tCons (tC (.str "o")) (tCons (tTup (tCons (tTup (tCons (tTup tNil) (tCons (tC (.bl false)) tNil))) tNil)) tNil))))))) (L2.start N_law_refused [fv, .int (T.lf : Nat)]) badF := by
    have t0 : EvD K (tTup tNil) (L2.start N_law_refused [fv, .int (T.lf : Nat)]) .o := ed_tup ed_nil (by decide)
    exact ed_cons ed_lst (ed_cons (ed_c (fun _ => kind_non) (by decide)) (ed_cons (ed_tup (ed_cons t0 (ed_cons ed_lst ed_nil)) (by decide)) (ed_cons (ed_tup (ed_cons t0 (ed_cons t0 (ed_cons t0 (ed_cons t0 (ed_cons t0 (ed_cons t0 (ed_cons t0 ed_nil))))))) (by decide)) (ed_cons (ed_c (fun _ => kind_int 0) (by decide)) (ed_cons (ed_c (fun _ => kind_str _) (by decide)) (ed_cons (ed_tup (ed_cons (ed_tup (ed_cons t0 (ed_cons (ed_c (fun _ => kind_bl false) (by decide)) ed_nil)) (by decide)) ed_nil) (by decide)) ed_nil))))))
  refine q_forD (bads H _ fun vs H1 e1 hd hvl => ⟨by rw [hvl]; show 7 ≤ sizeLine; decide, fun p hp => ?_⟩)
  have c1 := fc.same e1
  have e2 := Ex.new (o := .tup vs) hp
  have h2 : (upd H1 p (.tup vs)) p = some (.tup vs) := upd_same
  have hd2 := same_dtf e2 hd
  have c2 := c1.same e2
  have e02 := Ex.trans e1 e2
  revert h2 hd2 c2 e02
  generalize upd H1 p (.tup vs) = H2
  intro h2 hd2 c2 e02
  have wd : ∀ z : Bool, z ∈ [false, true] → True := fun _ _ => trivial
  have bl2 : ∀ {x : V} {i : Nat}, ([V.bl false, V.bl true] : List V)[i]? = some x → ∃ b : Bool, x = .bl b := fun {x i} h => by
    have := List.mem_of_getElem? h
    rcases List.mem_cons.mp this with rfl | this
    · exact ⟨_, rfl⟩
    rcases List.mem_cons.mp this with rfl | this
    · exact ⟨_, rfl⟩
    · exact nomatch this
  refine ⟨p, rfl, ⟨_, SqT.of h2⟩, for_tup (K := K) (a := p) (xs := vs) (fun i σ H' => ∃ o2 o3, σ = [some fv, some (.int (T.lf : Nat)), o2, o3] ∧ Same H2 H') ⟨_, _, rfl, fun y o h => h⟩ (fun i σ H' _ ⟨_, _, _, s⟩ => SqT.of (s _ _ h2)) ?_ ?_⟩
  · rintro i x σ H3 hx ⟨o2, o3, rfl, s3⟩
    obtain ⟨t, ht, hxt⟩ := paired_at hd2.kids hx
    obtain ⟨hg, hz⟩ := badF_bad t (List.mem_of_getElem? ht)
    refine ⟨(by show 2 ≤ sizeLine; decide), fun t5 ht5 => ⟨t5, rfl, ⟨_, SqT.of upd_same⟩, ?_⟩⟩
    refine for_tup (K := K) (a := t5) (xs := [.bl false, .bl true]) (fun i σ H' => ∃ o3, σ = [some fv, some (.int (T.lf : Nat)), some x, o3] ∧ Same (upd H3 t5 (.tup [.bl false, .bl true])) H') ⟨_, rfl, fun y o h => h⟩ (fun i σ H' _ ⟨_, _, s⟩ => SqT.of (s _ _ upd_same)) ?_ ?_
    · rintro i z σ H6 hz2 ⟨o3', rfl, s6⟩
      obtain ⟨b, rfl⟩ := bl2 hz2
      have hx6 := same_dtv ((s3.trans (same_new ht5)).trans s6) hxt
      refine gn0 ?_
      refine s_when (b := false) (ev_ask (by decide +kernel) (ea_cons (ev_var rfl) (ea_cons (ev_var rfl) (ea_cons (ev_var rfl) (ea_cons (ev_op0 rfl) (ea_cons ev_c ea_nil))))) fun H7 e7 Q7 E7 q7 => bad_form (same_dtv e7 hx6) hz hg (o1 := some (T.lf : Nat)) (o2 := some (-1)) (o3 := none) rfl rfl ⟨_, kind_non, by decide⟩ q7) (fun z => nomatch z) fun _ H7 e7 => ?_
      exact ⟨_, rfl, s6.trans e7⟩
    · rintro σ H6 ⟨o3', rfl, s6⟩
      exact ⟨_, _, rfl, s3.trans ((same_new ht5).trans s6)⟩
  rintro σ H3 ⟨o2, o3, rfl, s3⟩
  have c3 := c2.same s3
  refine ⟨_, rfl, 1, rfl, (by show 1 ≤ sizeLine; decide), fun t6 ht6 => ⟨(by show 7 ≤ sizeLine; decide), fun p9 hp9 => ?_⟩⟩
  have s6 := same_new (o := .tup [.int 0]) ht6
  have k6 : KindV K (upd H3 t6 (.tup [.int 0])) (.ref t6) "tuple" := kind_tup upd_same
  have s9 := same_new (o := .tup [.int (T.lf : Nat), .int (-1), .bl true, .bl false, .non, .ref t6, .str "0"]) hp9
  have h9 : (upd (upd H3 t6 (.tup [.int 0])) p9 (.tup [.int (T.lf : Nat), .int (-1), .bl true, .bl false, .non, .ref t6, .str "0"])) p9 = some (.tup [.int (T.lf : Nat), .int (-1), .bl true, .bl false, .non, .ref t6, .str "0"]) := upd_same
  have k9 := same_kind s9 k6
  have c9 := c3.same (s6.trans s9)
  have e09 := (e02.trans s3).trans (s6.trans s9)
  refine ⟨p9, rfl, ⟨_, SqT.of h9⟩, ?_⟩
  revert h9 k9 c9 e09
  generalize upd (upd H3 t6 (.tup [.int 0])) p9 (.tup [.int (T.lf : Nat), .int (-1), .bl true, .bl false, .non, .ref t6, .str "0"]) = H9
  intro h9 k9 c9 e09
  refine for_tup (K := K) (a := p9) (xs := [.int (T.lf : Nat), .int (-1), .bl true, .bl false, .non, .ref t6, .str "0"]) (fun i σ H' => ∃ o2 o3, σ = [some fv, some (.int (T.lf : Nat)), o2, o3] ∧ Same H9 H') ⟨_, _, rfl, fun y o h => h⟩ (fun i σ H' _ ⟨_, _, _, s⟩ => SqT.of (s _ _ h9)) ?_ ?_
  · rintro i x σ H10 hx ⟨o2', o3', rfl, s10⟩
    have hb : ∃ o, NumV K H10 x o ∧ belowB (T.lf : Nat) o = false := by
      have := List.mem_of_getElem? hx
      rcases List.mem_cons.mp this with rfl | this
      · refine ⟨some (T.lf : Nat), rfl, ?_⟩
        show (decide ((0 : Int) ≤ (T.lf : Nat)) && decide (((T.lf : Nat) : Int) < (T.lf : Nat))) = false
        rw [decide_eq_false (Int.lt_irrefl _), Bool.and_false]
      rcases List.mem_cons.mp this with rfl | this
      · refine ⟨some (-1), rfl, ?_⟩
        show (decide ((0 : Int) ≤ -1) && decide ((-1 : Int) < (T.lf : Nat))) = false
        rw [decide_eq_false (by decide), Bool.false_and]
      rcases List.mem_cons.mp this with rfl | this
      · exact ⟨none, ⟨_, kind_bl true, by decide⟩, rfl⟩
      rcases List.mem_cons.mp this with rfl | this
      · exact ⟨none, ⟨_, kind_bl false, by decide⟩, rfl⟩
      rcases List.mem_cons.mp this with rfl | this
      · exact ⟨none, ⟨_, kind_non, by decide⟩, rfl⟩
      rcases List.mem_cons.mp this with rfl | this
      · exact ⟨none, ⟨_, same_kind s10 k9, by decide⟩, rfl⟩
      rcases List.mem_cons.mp this with rfl | this
      · exact ⟨none, ⟨_, kind_str _, by decide⟩, rfl⟩
      · exact nomatch this
    obtain ⟨o, hn, hb⟩ := hb
    refine ⟨(by show 2 ≤ sizeLine; decide), fun t5 ht5 => ⟨t5, rfl, ⟨_, SqT.of upd_same⟩, ?_⟩⟩
    refine for_tup (K := K) (a := t5) (xs := [.bl false, .bl true]) (fun i σ H' => ∃ o3, σ = [some fv, some (.int (T.lf : Nat)), some x, o3] ∧ Same (upd H10 t5 (.tup [.bl false, .bl true])) H') ⟨_, rfl, fun y o h => h⟩ (fun i σ H' _ ⟨_, _, s⟩ => SqT.of (s _ _ upd_same)) ?_ ?_
    · rintro i z σ H16 hz2 ⟨o3', rfl, s16⟩
      obtain ⟨b, rfl⟩ := bl2 hz2
      have sx := (same_new (o := .tup [.bl false, .bl true]) ht5).trans s16
      have hn16 := num_same sx hn
      have c16 := c9.same (s10.trans sx)
      have em : ((T.lf : Nat) : Int) - 1 = ((T.lf - 1 : Nat) : Int) := by omega
      refine gn0 ?_
      refine q_when (b := false) (ev_ask (by decide +kernel) (ea_cons (ev_var rfl) (ea_cons (ev_var rfl) (ea_cons (ev_var rfl) (ea_cons (ev_var rfl) (ea_cons (ev_var rfl) ea_nil))))) fun H7 e7 Q7 E7 q7 => bad_queue (c16.same e7) (num_same e7 hn16) hb (o1 := some (T.lf : Nat)) rfl (num_same e7 hn16) q7) (fun z => nomatch z) fun _ H17 e17 => ?_
      refine q_when (b := false) (ev_ask (by decide +kernel) (ea_cons (ev_var rfl) (ea_cons (ev_var rfl) (ea_cons (ev_is (ev_op (ev_var rfl) ev_c rv_I0) (congrArg V.int em)) (ea_cons (ev_var rfl) (ea_cons (ev_var rfl) ea_nil))))) fun H7 e7 Q7 E7 q7 => bad_one (c16.same (e17.trans e7)) (show T.lf - 1 < T.lf by omega) (num_same (e17.trans e7) hn16) hb (o2 := some (T.lf : Nat)) rfl q7) (fun z => nomatch z) fun _ H18 e18 => ?_
      refine s_when (b := false) (ev_ask (by decide +kernel) (ea_cons (ev_var rfl) (ea_cons (ev_var rfl) (ea_cons ev_c (ea_cons (ev_is (ev_op (ev_var rfl) ev_c rv_I0) (congrArg V.int em)) (ea_cons (ev_var rfl) ea_nil))))) fun H7 e7 Q7 E7 q7 => bad_other (i := 0) (j := T.lf - 1) (c16.same ((e17.trans e18).trans e7)) lp (by omega) (num_same ((e17.trans e18).trans e7) hn16) hb q7) (fun z => nomatch z) fun _ H19 e19 => ?_
      exact ⟨_, rfl, s16.trans ((e17.trans e18).trans e19)⟩
    · rintro σ H16 ⟨o3', rfl, s16⟩
      exact ⟨_, _, rfl, s10.trans ((same_new ht5).trans s16)⟩
  rintro σ H10 ⟨o2', o3', rfl, s10⟩
  exact q H10 (e09.trans s10)
end
end K27
set_option Elab.async false
set_option linter.all false
set_option maxRecDepth 100000
set_option maxHeartbeats 8000000
namespace K27
open PySem PySem.Spec PyProof.Rows L2 Evl
open Dt (sub sub_nil sub_app sub_one sub_pre lcp lcp_le lcp_pre lv ad sub_ad isLf isLf_o idx_lt ad_len idx_of)
/-! ### law -/
theorem sqt_off {K : PySem.W.Frag} {H : Hp} {tp b : Addr} {xs l : List V} (h : SqT K H b xs) (ht : H tp = some (.lst l)) : SqT K (offS [tp] H) b xs := by
  have ne : ∀ u, H b = some u → (∀ l, u ≠ .lst l) → offS [tp] H b = some u := fun u hu hn => by
    rw [offS_ne (fun z => ?_)]
    · exact hu
    · rw [List.mem_singleton.mp z, ht] at hu
      exact hn l (Option.some.inj hu).symm
  rcases h with (h | ⟨o, h⟩) | h
  · exact .inl (.inl (ne _ h fun l z => nomatch z))
  · exact .inl (.inr ⟨o, ne _ h fun l z => nomatch z⟩)
  · exact .inr h
def spLaw (K : PySem.W.Frag) : Sp := fun vs H Q _ => ∃ (a : Addr) (ns : List Int), vs = [.ref a] ∧ SqL K H a (ns.map V.int) ∧ ns.length ≤ 63 ∧ ∀ H', Q (.bl true) H'
section
variable {P : Program} {w : World} {K : PySem.W.Frag} {mg : Str → Option Value} {base : Heap} {C CS U fS : Addr} {fdS : FuncData} {fL : Addr} {fdL : FuncData}
theorem ok_law (F : Fun K "law" "law" s_law fL fdL) (T0 : Txt K mg) (GTape : CalX P w K mg base CX0 1 "_law_tape" ["script"] (spTape K)) (GForm : CalX P w K mg base CX0 2 "_law_form" ["tape"] (spForm K)) (GPaths : CalX P w K mg base CX0 1 "_law_paths" ["form"] (spPaths K)) (GTriples : CalX P w K mg base CX0 26 "_law_triples" ["tape", "form", "paths"] (spTriples K)) (GHops : CalX P w K mg base CX0 29 "_law_hops" ["tape", "form", "paths"] (spHops K)) (GPushes : CalX P w K mg base CX0 29 "_law_pushes" ["tape", "form", "paths"] (spPushes K)) (GRefused : CalX P w K mg base CX0 26 "_law_refused" ["form", "many"] (spRefused K)) :
    FnOk P w K mg base CX0 30 fL fdL ["script"] (spLaw K) := by
  refine F.ok sc_law (fun vs H Q E h => ?_) (fun cdv A outer s H vs Q E hr h => ?_)
  · obtain ⟨a, ns, rfl, _⟩ := h
    rfl
  obtain ⟨sa, ns, rfl, hs, hnl, q⟩ := h
  refine ⟨_, (pss_cons (ps_set (i := 1) sc_law.nd rfl (.inl rfl) (pe_c0 GTape hr (by decide) rfl (pa_cons (pv 0) pa_nil))) 
    (pss_cons (ps_set (i := 2) sc_law.nd rfl (.inl rfl) (pe_c0 GForm hr (by decide) rfl (pa_cons (pv 1) pa_nil))) 
    (pss_cons (ps_set (i := 3) sc_law.nd rfl (.inl rfl) (pe_c0 GPaths hr (by decide) rfl (pa_cons (pv 2) pa_nil))) 
    (pss_cons (ps_if (PW.pt (pw_or (pt_not (pt_val (pe_c0 GTriples hr (by decide) rfl (pa_cons (pv 1) (pa_cons (pv 2) (pa_cons (pv 3) pa_nil)))))) (pw_or1 (pt_not (pt_val (pe_c0 GHops hr (by decide) rfl (pa_cons (pv 1) (pa_cons (pv 2) (pa_cons (pv 3) pa_nil))))))))) 
      (pss_one (ps_ret pe_bl)) pss_nil) 
    (pss_one (ps_ret (pe_and (pe_c0 GPushes hr (by decide) rfl (pa_cons (pv 1) (pa_cons (pv 2) (pa_cons (pv 3) pa_nil)))) (pe_one (pe_c0 GRefused hr (by decide) rfl (pa_cons (pv 2) (pa_cons (pe_callB call_len_seq (by rfl) T0.len PySem.boot_len (pa_cons (pv 3) pa_nil)) pa_nil))))))))))), ?_⟩
  refine ⟨_, rfl, sa, ns, rfl, hs, hnl, fun H1 tp ca s1 t1 hn1 => ?_⟩
  refine ⟨_, rfl, tp, ca, rfl, t1, fun H2 fv d r2 fo hdf => ?_⟩
  have hdt := dtv_of (dp_same offS_same hdf)
  have hsh := hdt.good fo.good
  have hnd : (dtOf d).nodes ≤ 20 := fo.nd
  have hht := fo.ht
  refine ⟨_, rfl, fv, dtOf d, rfl, hsh, by omega, by omega, fun H3 pl s3 hpl0 hP => ?_⟩
  have r3 : Rn K tp ca H1 H3 := r2.same s3
  have npt : pl ≠ tp := r2.b.new hpl0
  have cx : CtxF K [tp] H3 fv pl (dtOf d) := by
    obtain ⟨_, _, _, _, _, ht, _⟩ := r3.b
    obtain ⟨ps, h1, h2⟩ := hP
    refine ⟨⟨ps, by rw [offS_ne (fun z => npt (List.mem_singleton.mp z))]; exact h1, Paired.weak (fun v p z => ?_) h2⟩, same_dtv (GoS.of s3).s (dtv_of hdf), fo.good, hht, hnd, fo.size⟩
    obtain ⟨b, z1, z2⟩ := z
    exact ⟨b, z1, sqt_off z2 ht⟩
  refine ⟨_, rfl, _, rfl, _, rfl, tp, ca, pl, fv, dtOf d, rfl, r3.b, cx, fun H4 r4 => ⟨true, rfl, ?_⟩⟩
  have cx4 := cx.rn r4
  refine iteF ⟨_, rfl, _, rfl, _, rfl, tp, ca, pl, fv, dtOf d, rfl, r4.b, cx4, fun H5 r5 => ⟨true, rfl, ?_⟩⟩
  have cx5 := cx4.rn r5
  refine iteF ⟨_, rfl, _, rfl, _, rfl, tp, ca, pl, fv, dtOf d, rfl, r5.b, cx5, fun H6 r6 => ⟨true, rfl, ?_⟩⟩
  have cx6 := cx5.rn r6
  obtain ⟨ps, hps, hpn, hat⟩ := cx6.paths.at
  have hlf := cx6.lf
  refine iteT ⟨_, rfl, _, rfl, pl, ps, rfl, .inl (SqL.of hps), fv, dtOf d, ?_, ⟨cx6.form, cx6.g, by omega, by omega, cx6.z⟩, by omega, fun H7 s7 => q H7⟩
  show [fv, V.int ((ps.length : Nat) : Int)] = _
  rw [hpn]
end
end K27
set_option Elab.async false
set_option linter.all false
set_option maxRecDepth 100000
set_option maxHeartbeats 8000000
namespace K27
open PySem PySem.Spec PyProof.Rows L2 Dt
section
variable {K : PySem.W.Frag} {h : Heap} {mg : Str → Option Value}
theorem defAt_of (X : K.In h) (G : h.Ns mainGlobals mg) {x : Str} {st : Stmt} {ps : List Str} {f : Addr} {oc kV doc pm cdv ct : Value} {od an : Option Addr} {osl : Array (Option Value)}
    (hb : ∀ (kV doc pm : Value) (an : Option Addr) (cdv ct : Value) (us : List Value), us.length = ps.length → bindArgs (PySem.W.fnOf x x (defArgs st) (defBody st) (defScope st) .none kV doc pm an cdv ct) ⟨us, []⟩ = pure (ps.zip us))
    (a : PySem.W.nsIn K mainGlobals x = some (some (.ref f))) (l : K.lookup f = some ⟨oc, od, .func (PySem.W.fnOf x x (defArgs st) (defBody st) (defScope st) .none kV doc pm an cdv ct), osl⟩) (c : PySem.W.codeIn K cdv x = true) (k : PySem.W.keepIn K (.ref f) = true) : DefAt K mg x st ps :=
  ⟨f, _, fun_mk l c k, PySem.W.mg_of X G a, (fun_mk l c k).binds hb⟩
theorem kwAt_of (X : K.In h) (G : h.Ns mainGlobals mg) {x : Str} {st : Stmt} {ps ks : List Str} {g : {α : Type} → List α → List α} {f : Addr} {oc kV doc pm cdv ct : Value} {od an : Option Addr} {osl : Array (Option Value)}
    (hk : ∀ (kV doc pm : Value) (an : Option Addr) (cdv ct : Value) (s : Shared) (ws : List Value), ws.length = ks.length → BindsTo s (PySem.W.fnOf x x (defArgs st) (defBody st) (defScope st) .none kV doc pm an cdv ct) ⟨[], ks.zip ws⟩ (ps.zip (g ws)))
    (hr : ∀ {zs : List V} {ws : List Value}, Vals zs ws → Vals (g zs) (g ws))
    (a : PySem.W.nsIn K mainGlobals x = some (some (.ref f))) (l : K.lookup f = some ⟨oc, od, .func (PySem.W.fnOf x x (defArgs st) (defBody st) (defScope st) .none kV doc pm an cdv ct), osl⟩) : KwAt K mg x ps ks g :=
  ⟨f, _, PySem.W.mg_of X G a, ⟨_, _, _, l⟩, ⟨fun s ws hw => hk _ _ _ _ _ _ s ws hw, hr⟩⟩
end
theorem da_is_integer {K : PySem.W.Frag} {h : Heap} {mg : Str → Option Value} (X : K.In h) (G : h.Ns mainGlobals mg) {f : Addr} {oc kV doc pm cdv ct : Value} {od an : Option Addr} {osl : Array (Option Value)}
    (a : PySem.W.nsIn K mainGlobals "is_integer" = some (some (.ref f))) (l : K.lookup f = some ⟨oc, od, .func (PySem.W.fnOf "is_integer" "is_integer" (defArgs s_is_integer) (defBody s_is_integer) (defScope s_is_integer) .none kV doc pm an cdv ct), osl⟩) (c : PySem.W.codeIn K cdv "is_integer" = true) (k : PySem.W.keepIn K (.ref f) = true) : DefAt K mg "is_integer" s_is_integer ["thing"] :=
  defAt_of X G (fun _ _ _ _ _ _ us hl => match us, hl with | [_], _ => rfl) a l c k
theorem da_is_number {K : PySem.W.Frag} {h : Heap} {mg : Str → Option Value} (X : K.In h) (G : h.Ns mainGlobals mg) {f : Addr} {oc kV doc pm cdv ct : Value} {od an : Option Addr} {osl : Array (Option Value)}
    (a : PySem.W.nsIn K mainGlobals "is_number" = some (some (.ref f))) (l : K.lookup f = some ⟨oc, od, .func (PySem.W.fnOf "is_number" "is_number" (defArgs s_is_number) (defBody s_is_number) (defScope s_is_number) .none kV doc pm an cdv ct), osl⟩) (c : PySem.W.codeIn K cdv "is_number" = true) (k : PySem.W.keepIn K (.ref f) = true) : DefAt K mg "is_number" s_is_number ["thing"] :=
  defAt_of X G (fun _ _ _ _ _ _ us hl => match us, hl with | [_], _ => rfl) a l c k
theorem da_is_below {K : PySem.W.Frag} {h : Heap} {mg : Str → Option Value} (X : K.In h) (G : h.Ns mainGlobals mg) {f : Addr} {oc kV doc pm cdv ct : Value} {od an : Option Addr} {osl : Array (Option Value)}
    (a : PySem.W.nsIn K mainGlobals "is_below" = some (some (.ref f))) (l : K.lookup f = some ⟨oc, od, .func (PySem.W.fnOf "is_below" "is_below" (defArgs s_is_below) (defBody s_is_below) (defScope s_is_below) .none kV doc pm an cdv ct), osl⟩) (c : PySem.W.codeIn K cdv "is_below" = true) (k : PySem.W.keepIn K (.ref f) = true) : DefAt K mg "is_below" s_is_below ["thing", "bound"] :=
  defAt_of X G (fun _ _ _ _ _ _ us hl => match us, hl with | [_, _], _ => rfl) a l c k
theorem da_need {K : PySem.W.Frag} {h : Heap} {mg : Str → Option Value} (X : K.In h) (G : h.Ns mainGlobals mg) {f : Addr} {oc kV doc pm cdv ct : Value} {od an : Option Addr} {osl : Array (Option Value)}
    (a : PySem.W.nsIn K mainGlobals "need" = some (some (.ref f))) (l : K.lookup f = some ⟨oc, od, .func (PySem.W.fnOf "need" "need" (defArgs s_need) (defBody s_need) (defScope s_need) .none kV doc pm an cdv ct), osl⟩) (c : PySem.W.codeIn K cdv "need" = true) (k : PySem.W.keepIn K (.ref f) = true) : DefAt K mg "need" s_need ["fits", "word"] :=
  defAt_of X G (fun _ _ _ _ _ _ us hl => match us, hl with | [_, _], _ => rfl) a l c k
theorem da_is_shape {K : PySem.W.Frag} {h : Heap} {mg : Str → Option Value} (X : K.In h) (G : h.Ns mainGlobals mg) {f : Addr} {oc kV doc pm cdv ct : Value} {od an : Option Addr} {osl : Array (Option Value)}
    (a : PySem.W.nsIn K mainGlobals "is_shape" = some (some (.ref f))) (l : K.lookup f = some ⟨oc, od, .func (PySem.W.fnOf "is_shape" "is_shape" (defArgs s_is_shape) (defBody s_is_shape) (defScope s_is_shape) .none kV doc pm an cdv ct), osl⟩) (c : PySem.W.codeIn K cdv "is_shape" = true) (k : PySem.W.keepIn K (.ref f) = true) : DefAt K mg "is_shape" s_is_shape ["thing"] :=
  defAt_of X G (fun _ _ _ _ _ _ us hl => match us, hl with | [_], _ => rfl) a l c k
theorem da_has_forks_of {K : PySem.W.Frag} {h : Heap} {mg : Str → Option Value} (X : K.In h) (G : h.Ns mainGlobals mg) {f : Addr} {oc kV doc pm cdv ct : Value} {od an : Option Addr} {osl : Array (Option Value)}
    (a : PySem.W.nsIn K mainGlobals "has_forks_of" = some (some (.ref f))) (l : K.lookup f = some ⟨oc, od, .func (PySem.W.fnOf "has_forks_of" "has_forks_of" (defArgs s_has_forks_of) (defBody s_has_forks_of) (defScope s_has_forks_of) .none kV doc pm an cdv ct), osl⟩) (c : PySem.W.codeIn K cdv "has_forks_of" = true) (k : PySem.W.keepIn K (.ref f) = true) : DefAt K mg "has_forks_of" s_has_forks_of ["thing", "least"] :=
  defAt_of X G (fun _ _ _ _ _ _ us hl => match us, hl with | [_, _], _ => rfl) a l c k
theorem da_need_shape {K : PySem.W.Frag} {h : Heap} {mg : Str → Option Value} (X : K.In h) (G : h.Ns mainGlobals mg) {f : Addr} {oc kV doc pm cdv ct : Value} {od an : Option Addr} {osl : Array (Option Value)}
    (a : PySem.W.nsIn K mainGlobals "need_shape" = some (some (.ref f))) (l : K.lookup f = some ⟨oc, od, .func (PySem.W.fnOf "need_shape" "need_shape" (defArgs s_need_shape) (defBody s_need_shape) (defScope s_need_shape) .none kV doc pm an cdv ct), osl⟩) (c : PySem.W.codeIn K cdv "need_shape" = true) (k : PySem.W.keepIn K (.ref f) = true) : DefAt K mg "need_shape" s_need_shape ["form", "word"] :=
  defAt_of X G (fun _ _ _ _ _ _ us hl => match us, hl with | [_, _], _ => rfl) a l c k
theorem da_need_queue {K : PySem.W.Frag} {h : Heap} {mg : Str → Option Value} (X : K.In h) (G : h.Ns mainGlobals mg) {f : Addr} {oc kV doc pm cdv ct : Value} {od an : Option Addr} {osl : Array (Option Value)}
    (a : PySem.W.nsIn K mainGlobals "need_queue" = some (some (.ref f))) (l : K.lookup f = some ⟨oc, od, .func (PySem.W.fnOf "need_queue" "need_queue" (defArgs s_need_queue) (defBody s_need_queue) (defScope s_need_queue) .none kV doc pm an cdv ct), osl⟩) (c : PySem.W.codeIn K cdv "need_queue" = true) (k : PySem.W.keepIn K (.ref f) = true) : DefAt K mg "need_queue" s_need_queue ["tree", "queue", "word"] :=
  defAt_of X G (fun _ _ _ _ _ _ us hl => match us, hl with | [_, _, _], _ => rfl) a l c k
theorem da_shape_tree {K : PySem.W.Frag} {h : Heap} {mg : Str → Option Value} (X : K.In h) (G : h.Ns mainGlobals mg) {f : Addr} {oc kV doc pm cdv ct : Value} {od an : Option Addr} {osl : Array (Option Value)}
    (a : PySem.W.nsIn K mainGlobals "shape_tree" = some (some (.ref f))) (l : K.lookup f = some ⟨oc, od, .func (PySem.W.fnOf "shape_tree" "shape_tree" (defArgs s_shape_tree) (defBody s_shape_tree) (defScope s_shape_tree) .none kV doc pm an cdv ct), osl⟩) (c : PySem.W.codeIn K cdv "shape_tree" = true) (k : PySem.W.keepIn K (.ref f) = true) : DefAt K mg "shape_tree" s_shape_tree ["form", "word"] :=
  defAt_of X G (fun _ _ _ _ _ _ us hl => match us, hl with | [_, _], _ => rfl) a l c k
theorem da_is_within {K : PySem.W.Frag} {h : Heap} {mg : Str → Option Value} (X : K.In h) (G : h.Ns mainGlobals mg) {f : Addr} {oc kV doc pm cdv ct : Value} {od an : Option Addr} {osl : Array (Option Value)}
    (a : PySem.W.nsIn K mainGlobals "is_within" = some (some (.ref f))) (l : K.lookup f = some ⟨oc, od, .func (PySem.W.fnOf "is_within" "is_within" (defArgs s_is_within) (defBody s_is_within) (defScope s_is_within) .none kV doc pm an cdv ct), osl⟩) (c : PySem.W.codeIn K cdv "is_within" = true) (k : PySem.W.keepIn K (.ref f) = true) : DefAt K mg "is_within" s_is_within ["tree", "node", "top"] :=
  defAt_of X G (fun _ _ _ _ _ _ us hl => match us, hl with | [_, _, _], _ => rfl) a l c k
theorem da_meet_in {K : PySem.W.Frag} {h : Heap} {mg : Str → Option Value} (X : K.In h) (G : h.Ns mainGlobals mg) {f : Addr} {oc kV doc pm cdv ct : Value} {od an : Option Addr} {osl : Array (Option Value)}
    (a : PySem.W.nsIn K mainGlobals "meet_in" = some (some (.ref f))) (l : K.lookup f = some ⟨oc, od, .func (PySem.W.fnOf "meet_in" "meet_in" (defArgs s_meet_in) (defBody s_meet_in) (defScope s_meet_in) .none kV doc pm an cdv ct), osl⟩) (c : PySem.W.codeIn K cdv "meet_in" = true) (k : PySem.W.keepIn K (.ref f) = true) : DefAt K mg "meet_in" s_meet_in ["tree", "one", "other"] :=
  defAt_of X G (fun _ _ _ _ _ _ us hl => match us, hl with | [_, _, _], _ => rfl) a l c k
theorem da_side_toward {K : PySem.W.Frag} {h : Heap} {mg : Str → Option Value} (X : K.In h) (G : h.Ns mainGlobals mg) {f : Addr} {oc kV doc pm cdv ct : Value} {od an : Option Addr} {osl : Array (Option Value)}
    (a : PySem.W.nsIn K mainGlobals "side_toward" = some (some (.ref f))) (l : K.lookup f = some ⟨oc, od, .func (PySem.W.fnOf "side_toward" "side_toward" (defArgs s_side_toward) (defBody s_side_toward) (defScope s_side_toward) .none kV doc pm an cdv ct), osl⟩) (c : PySem.W.codeIn K cdv "side_toward" = true) (k : PySem.W.keepIn K (.ref f) = true) : DefAt K mg "side_toward" s_side_toward ["tree", "node", "down"] :=
  defAt_of X G (fun _ _ _ _ _ _ us hl => match us, hl with | [_, _, _], _ => rfl) a l c k
theorem da_is_rank {K : PySem.W.Frag} {h : Heap} {mg : Str → Option Value} (X : K.In h) (G : h.Ns mainGlobals mg) {f : Addr} {oc kV doc pm cdv ct : Value} {od an : Option Addr} {osl : Array (Option Value)}
    (a : PySem.W.nsIn K mainGlobals "is_rank" = some (some (.ref f))) (l : K.lookup f = some ⟨oc, od, .func (PySem.W.fnOf "is_rank" "is_rank" (defArgs s_is_rank) (defBody s_is_rank) (defScope s_is_rank) .none kV doc pm an cdv ct), osl⟩) (c : PySem.W.codeIn K cdv "is_rank" = true) (k : PySem.W.keepIn K (.ref f) = true) : DefAt K mg "is_rank" s_is_rank ["thing"] :=
  defAt_of X G (fun _ _ _ _ _ _ us hl => match us, hl with | [_], _ => rfl) a l c k
theorem da_fit_path {K : PySem.W.Frag} {h : Heap} {mg : Str → Option Value} (X : K.In h) (G : h.Ns mainGlobals mg) {f : Addr} {oc kV doc pm cdv ct : Value} {od an : Option Addr} {osl : Array (Option Value)}
    (a : PySem.W.nsIn K mainGlobals "fit_path" = some (some (.ref f))) (l : K.lookup f = some ⟨oc, od, .func (PySem.W.fnOf "fit_path" "fit_path" (defArgs s_fit_path) (defBody s_fit_path) (defScope s_fit_path) .none kV doc pm an cdv ct), osl⟩) (c : PySem.W.codeIn K cdv "fit_path" = true) (k : PySem.W.keepIn K (.ref f) = true) : DefAt K mg "fit_path" s_fit_path ["tree", "queue", "thing"] :=
  defAt_of X G (fun _ _ _ _ _ _ us hl => match us, hl with | [_, _, _], _ => rfl) a l c k
theorem da_place_behind {K : PySem.W.Frag} {h : Heap} {mg : Str → Option Value} (X : K.In h) (G : h.Ns mainGlobals mg) {f : Addr} {oc kV doc pm cdv ct : Value} {od an : Option Addr} {osl : Array (Option Value)}
    (a : PySem.W.nsIn K mainGlobals "place_behind" = some (some (.ref f))) (l : K.lookup f = some ⟨oc, od, .func (PySem.W.fnOf "place_behind" "place_behind" (defArgs s_place_behind) (defBody s_place_behind) (defScope s_place_behind) .none kV doc pm an cdv ct), osl⟩) (c : PySem.W.codeIn K cdv "place_behind" = true) (k : PySem.W.keepIn K (.ref f) = true) : DefAt K mg "place_behind" s_place_behind ["line", "rank"] :=
  defAt_of X G (fun _ _ _ _ _ _ us hl => match us, hl with | [_, _], _ => rfl) a l c k
theorem da_need_absent {K : PySem.W.Frag} {h : Heap} {mg : Str → Option Value} (X : K.In h) (G : h.Ns mainGlobals mg) {f : Addr} {oc kV doc pm cdv ct : Value} {od an : Option Addr} {osl : Array (Option Value)}
    (a : PySem.W.nsIn K mainGlobals "need_absent" = some (some (.ref f))) (l : K.lookup f = some ⟨oc, od, .func (PySem.W.fnOf "need_absent" "need_absent" (defArgs s_need_absent) (defBody s_need_absent) (defScope s_need_absent) .none kV doc pm an cdv ct), osl⟩) (c : PySem.W.codeIn K cdv "need_absent" = true) (k : PySem.W.keepIn K (.ref f) = true) : DefAt K mg "need_absent" s_need_absent ["standing", "number"] :=
  defAt_of X G (fun _ _ _ _ _ _ us hl => match us, hl with | [_, _], _ => rfl) a l c k
theorem da_order_at {K : PySem.W.Frag} {h : Heap} {mg : Str → Option Value} (X : K.In h) (G : h.Ns mainGlobals mg) {f : Addr} {oc kV doc pm cdv ct : Value} {od an : Option Addr} {osl : Array (Option Value)}
    (a : PySem.W.nsIn K mainGlobals "order_at" = some (some (.ref f))) (l : K.lookup f = some ⟨oc, od, .func (PySem.W.fnOf "order_at" "order_at" (defArgs s_order_at) (defBody s_order_at) (defScope s_order_at) .none kV doc pm an cdv ct), osl⟩) (c : PySem.W.codeIn K cdv "order_at" = true) (k : PySem.W.keepIn K (.ref f) = true) : DefAt K mg "order_at" s_order_at ["tree", "lines", "node"] :=
  defAt_of X G (fun _ _ _ _ _ _ us hl => match us, hl with | [_, _, _], _ => rfl) a l c k
theorem da_standing_with {K : PySem.W.Frag} {h : Heap} {mg : Str → Option Value} (X : K.In h) (G : h.Ns mainGlobals mg) {f : Addr} {oc kV doc pm cdv ct : Value} {od an : Option Addr} {osl : Array (Option Value)}
    (a : PySem.W.nsIn K mainGlobals "standing_with" = some (some (.ref f))) (l : K.lookup f = some ⟨oc, od, .func (PySem.W.fnOf "standing_with" "standing_with" (defArgs s_standing_with) (defBody s_standing_with) (defScope s_standing_with) .none kV doc pm an cdv ct), osl⟩) (c : PySem.W.codeIn K cdv "standing_with" = true) (k : PySem.W.keepIn K (.ref f) = true) : DefAt K mg "standing_with" s_standing_with ["form", "lines"] :=
  defAt_of X G (fun _ _ _ _ _ _ us hl => match us, hl with | [_, _], _ => rfl) a l c k
theorem da_may_turn {K : PySem.W.Frag} {h : Heap} {mg : Str → Option Value} (X : K.In h) (G : h.Ns mainGlobals mg) {f : Addr} {oc kV doc pm cdv ct : Value} {od an : Option Addr} {osl : Array (Option Value)}
    (a : PySem.W.nsIn K mainGlobals "may_turn" = some (some (.ref f))) (l : K.lookup f = some ⟨oc, od, .func (PySem.W.fnOf "may_turn" "may_turn" (defArgs s_may_turn) (defBody s_may_turn) (defScope s_may_turn) .none kV doc pm an cdv ct), osl⟩) (c : PySem.W.codeIn K cdv "may_turn" = true) (k : PySem.W.keepIn K (.ref f) = true) : (DefAt K mg "may_turn" s_may_turn ["form", "queue", "one", "other"]) ∧ KwAt K mg "may_turn" ["form", "queue", "one", "other"] ["other", "one", "queue", "form"] revL :=
  ⟨defAt_of X G (fun _ _ _ _ _ _ us hl => match us, hl with | [_, _, _, _], _ => rfl) a l c k, kwAt_of X G (fun _ _ _ _ _ _ _ ws hl => match ws, hl with | [_, _, _, _], _ => .of_eq rfl) revL_rel a l⟩
theorem da_law_tape {K : PySem.W.Frag} {h : Heap} {mg : Str → Option Value} (X : K.In h) (G : h.Ns mainGlobals mg) {f : Addr} {oc kV doc pm cdv ct : Value} {od an : Option Addr} {osl : Array (Option Value)}
    (a : PySem.W.nsIn K mainGlobals "_law_tape" = some (some (.ref f))) (l : K.lookup f = some ⟨oc, od, .func (PySem.W.fnOf "_law_tape" "_law_tape" (defArgs s_law_tape) (defBody s_law_tape) (defScope s_law_tape) .none kV doc pm an cdv ct), osl⟩) (c : PySem.W.codeIn K cdv "_law_tape" = true) (k : PySem.W.keepIn K (.ref f) = true) : DefAt K mg "_law_tape" s_law_tape ["script"] :=
  defAt_of X G (fun _ _ _ _ _ _ us hl => match us, hl with | [_], _ => rfl) a l c k
theorem da_law_draw {K : PySem.W.Frag} {h : Heap} {mg : Str → Option Value} (X : K.In h) (G : h.Ns mainGlobals mg) {f : Addr} {oc kV doc pm cdv ct : Value} {od an : Option Addr} {osl : Array (Option Value)}
    (a : PySem.W.nsIn K mainGlobals "_law_draw" = some (some (.ref f))) (l : K.lookup f = some ⟨oc, od, .func (PySem.W.fnOf "_law_draw" "_law_draw" (defArgs s_law_draw) (defBody s_law_draw) (defScope s_law_draw) .none kV doc pm an cdv ct), osl⟩) (c : PySem.W.codeIn K cdv "_law_draw" = true) (k : PySem.W.keepIn K (.ref f) = true) : DefAt K mg "_law_draw" s_law_draw ["tape", "many"] :=
  defAt_of X G (fun _ _ _ _ _ _ us hl => match us, hl with | [_, _], _ => rfl) a l c k
theorem da_law_form {K : PySem.W.Frag} {h : Heap} {mg : Str → Option Value} (X : K.In h) (G : h.Ns mainGlobals mg) {f : Addr} {oc kV doc pm cdv ct : Value} {od an : Option Addr} {osl : Array (Option Value)}
    (a : PySem.W.nsIn K mainGlobals "_law_form" = some (some (.ref f))) (l : K.lookup f = some ⟨oc, od, .func (PySem.W.fnOf "_law_form" "_law_form" (defArgs s_law_form) (defBody s_law_form) (defScope s_law_form) .none kV doc pm an cdv ct), osl⟩) (c : PySem.W.codeIn K cdv "_law_form" = true) (k : PySem.W.keepIn K (.ref f) = true) : DefAt K mg "_law_form" s_law_form ["tape"] :=
  defAt_of X G (fun _ _ _ _ _ _ us hl => match us, hl with | [_], _ => rfl) a l c k
theorem da_law_paths {K : PySem.W.Frag} {h : Heap} {mg : Str → Option Value} (X : K.In h) (G : h.Ns mainGlobals mg) {f : Addr} {oc kV doc pm cdv ct : Value} {od an : Option Addr} {osl : Array (Option Value)}
    (a : PySem.W.nsIn K mainGlobals "_law_paths" = some (some (.ref f))) (l : K.lookup f = some ⟨oc, od, .func (PySem.W.fnOf "_law_paths" "_law_paths" (defArgs s_law_paths) (defBody s_law_paths) (defScope s_law_paths) .none kV doc pm an cdv ct), osl⟩) (c : PySem.W.codeIn K cdv "_law_paths" = true) (k : PySem.W.keepIn K (.ref f) = true) : DefAt K mg "_law_paths" s_law_paths ["form"] :=
  defAt_of X G (fun _ _ _ _ _ _ us hl => match us, hl with | [_], _ => rfl) a l c k
theorem da_law_common {K : PySem.W.Frag} {h : Heap} {mg : Str → Option Value} (X : K.In h) (G : h.Ns mainGlobals mg) {f : Addr} {oc kV doc pm cdv ct : Value} {od an : Option Addr} {osl : Array (Option Value)}
    (a : PySem.W.nsIn K mainGlobals "_law_common" = some (some (.ref f))) (l : K.lookup f = some ⟨oc, od, .func (PySem.W.fnOf "_law_common" "_law_common" (defArgs s_law_common) (defBody s_law_common) (defScope s_law_common) .none kV doc pm an cdv ct), osl⟩) (c : PySem.W.codeIn K cdv "_law_common" = true) (k : PySem.W.keepIn K (.ref f) = true) : DefAt K mg "_law_common" s_law_common ["one", "other"] :=
  defAt_of X G (fun _ _ _ _ _ _ us hl => match us, hl with | [_, _], _ => rfl) a l c k
theorem da_law_due {K : PySem.W.Frag} {h : Heap} {mg : Str → Option Value} (X : K.In h) (G : h.Ns mainGlobals mg) {f : Addr} {oc kV doc pm cdv ct : Value} {od an : Option Addr} {osl : Array (Option Value)}
    (a : PySem.W.nsIn K mainGlobals "_law_due" = some (some (.ref f))) (l : K.lookup f = some ⟨oc, od, .func (PySem.W.fnOf "_law_due" "_law_due" (defArgs s_law_due) (defBody s_law_due) (defScope s_law_due) .none kV doc pm an cdv ct), osl⟩) (c : PySem.W.codeIn K cdv "_law_due" = true) (k : PySem.W.keepIn K (.ref f) = true) : DefAt K mg "_law_due" s_law_due ["paths", "queue", "one", "other"] :=
  defAt_of X G (fun _ _ _ _ _ _ us hl => match us, hl with | [_, _, _, _], _ => rfl) a l c k
theorem da_law_is {K : PySem.W.Frag} {h : Heap} {mg : Str → Option Value} (X : K.In h) (G : h.Ns mainGlobals mg) {f : Addr} {oc kV doc pm cdv ct : Value} {od an : Option Addr} {osl : Array (Option Value)}
    (a : PySem.W.nsIn K mainGlobals "_law_is" = some (some (.ref f))) (l : K.lookup f = some ⟨oc, od, .func (PySem.W.fnOf "_law_is" "_law_is" (defArgs s_law_is) (defBody s_law_is) (defScope s_law_is) .none kV doc pm an cdv ct), osl⟩) (c : PySem.W.codeIn K cdv "_law_is" = true) (k : PySem.W.keepIn K (.ref f) = true) : DefAt K mg "_law_is" s_law_is ["told", "due"] :=
  defAt_of X G (fun _ _ _ _ _ _ us hl => match us, hl with | [_, _], _ => rfl) a l c k
theorem da_law_ask {K : PySem.W.Frag} {h : Heap} {mg : Str → Option Value} (X : K.In h) (G : h.Ns mainGlobals mg) {f : Addr} {oc kV doc pm cdv ct : Value} {od an : Option Addr} {osl : Array (Option Value)}
    (a : PySem.W.nsIn K mainGlobals "_law_ask" = some (some (.ref f))) (l : K.lookup f = some ⟨oc, od, .func (PySem.W.fnOf "_law_ask" "_law_ask" (defArgs s_law_ask) (defBody s_law_ask) (defScope s_law_ask) .none kV doc pm an cdv ct), osl⟩) (c : PySem.W.codeIn K cdv "_law_ask" = true) (k : PySem.W.keepIn K (.ref f) = true) : DefAt K mg "_law_ask" s_law_ask ["named", "form", "queue", "one", "other"] :=
  defAt_of X G (fun _ _ _ _ _ _ us hl => match us, hl with | [_, _, _, _, _], _ => rfl) a l c k
theorem da_law_triples {K : PySem.W.Frag} {h : Heap} {mg : Str → Option Value} (X : K.In h) (G : h.Ns mainGlobals mg) {f : Addr} {oc kV doc pm cdv ct : Value} {od an : Option Addr} {osl : Array (Option Value)}
    (a : PySem.W.nsIn K mainGlobals "_law_triples" = some (some (.ref f))) (l : K.lookup f = some ⟨oc, od, .func (PySem.W.fnOf "_law_triples" "_law_triples" (defArgs s_law_triples) (defBody s_law_triples) (defScope s_law_triples) .none kV doc pm an cdv ct), osl⟩) (c : PySem.W.codeIn K cdv "_law_triples" = true) (k : PySem.W.keepIn K (.ref f) = true) : DefAt K mg "_law_triples" s_law_triples ["tape", "form", "paths"] :=
  defAt_of X G (fun _ _ _ _ _ _ us hl => match us, hl with | [_, _, _], _ => rfl) a l c k
theorem da_law_slots {K : PySem.W.Frag} {h : Heap} {mg : Str → Option Value} (X : K.In h) (G : h.Ns mainGlobals mg) {f : Addr} {oc kV doc pm cdv ct : Value} {od an : Option Addr} {osl : Array (Option Value)}
    (a : PySem.W.nsIn K mainGlobals "_law_slots" = some (some (.ref f))) (l : K.lookup f = some ⟨oc, od, .func (PySem.W.fnOf "_law_slots" "_law_slots" (defArgs s_law_slots) (defBody s_law_slots) (defScope s_law_slots) .none kV doc pm an cdv ct), osl⟩) (c : PySem.W.codeIn K cdv "_law_slots" = true) (k : PySem.W.keepIn K (.ref f) = true) : DefAt K mg "_law_slots" s_law_slots ["order", "side", "first", "second", "fresh"] :=
  defAt_of X G (fun _ _ _ _ _ _ us hl => match us, hl with | [_, _, _, _, _], _ => rfl) a l c k
theorem da_law_turned {K : PySem.W.Frag} {h : Heap} {mg : Str → Option Value} (X : K.In h) (G : h.Ns mainGlobals mg) {f : Addr} {oc kV doc pm cdv ct : Value} {od an : Option Addr} {osl : Array (Option Value)}
    (a : PySem.W.nsIn K mainGlobals "_law_turned" = some (some (.ref f))) (l : K.lookup f = some ⟨oc, od, .func (PySem.W.fnOf "_law_turned" "_law_turned" (defArgs s_law_turned) (defBody s_law_turned) (defScope s_law_turned) .none kV doc pm an cdv ct), osl⟩) (c : PySem.W.codeIn K cdv "_law_turned" = true) (k : PySem.W.keepIn K (.ref f) = true) : DefAt K mg "_law_turned" s_law_turned ["before", "after", "one", "other"] :=
  defAt_of X G (fun _ _ _ _ _ _ us hl => match us, hl with | [_, _, _, _], _ => rfl) a l c k
theorem da_law_hop {K : PySem.W.Frag} {h : Heap} {mg : Str → Option Value} (X : K.In h) (G : h.Ns mainGlobals mg) {f : Addr} {oc kV doc pm cdv ct : Value} {od an : Option Addr} {osl : Array (Option Value)}
    (a : PySem.W.nsIn K mainGlobals "_law_hop" = some (some (.ref f))) (l : K.lookup f = some ⟨oc, od, .func (PySem.W.fnOf "_law_hop" "_law_hop" (defArgs s_law_hop) (defBody s_law_hop) (defScope s_law_hop) .none kV doc pm an cdv ct), osl⟩) (c : PySem.W.codeIn K cdv "_law_hop" = true) (k : PySem.W.keepIn K (.ref f) = true) : DefAt K mg "_law_hop" s_law_hop ["tape", "form", "paths", "standing", "queues"] :=
  defAt_of X G (fun _ _ _ _ _ _ us hl => match us, hl with | [_, _, _, _, _], _ => rfl) a l c k
theorem da_law_hops {K : PySem.W.Frag} {h : Heap} {mg : Str → Option Value} (X : K.In h) (G : h.Ns mainGlobals mg) {f : Addr} {oc kV doc pm cdv ct : Value} {od an : Option Addr} {osl : Array (Option Value)}
    (a : PySem.W.nsIn K mainGlobals "_law_hops" = some (some (.ref f))) (l : K.lookup f = some ⟨oc, od, .func (PySem.W.fnOf "_law_hops" "_law_hops" (defArgs s_law_hops) (defBody s_law_hops) (defScope s_law_hops) .none kV doc pm an cdv ct), osl⟩) (c : PySem.W.codeIn K cdv "_law_hops" = true) (k : PySem.W.keepIn K (.ref f) = true) : DefAt K mg "_law_hops" s_law_hops ["tape", "form", "paths"] :=
  defAt_of X G (fun _ _ _ _ _ _ us hl => match us, hl with | [_, _, _], _ => rfl) a l c k
theorem da_law_rank {K : PySem.W.Frag} {h : Heap} {mg : Str → Option Value} (X : K.In h) (G : h.Ns mainGlobals mg) {f : Addr} {oc kV doc pm cdv ct : Value} {od an : Option Addr} {osl : Array (Option Value)}
    (a : PySem.W.nsIn K mainGlobals "_law_rank" = some (some (.ref f))) (l : K.lookup f = some ⟨oc, od, .func (PySem.W.fnOf "_law_rank" "_law_rank" (defArgs s_law_rank) (defBody s_law_rank) (defScope s_law_rank) .none kV doc pm an cdv ct), osl⟩) (c : PySem.W.codeIn K cdv "_law_rank" = true) (k : PySem.W.keepIn K (.ref f) = true) : DefAt K mg "_law_rank" s_law_rank ["tape", "manner"] :=
  defAt_of X G (fun _ _ _ _ _ _ us hl => match us, hl with | [_, _], _ => rfl) a l c k
theorem da_law_pushes {K : PySem.W.Frag} {h : Heap} {mg : Str → Option Value} (X : K.In h) (G : h.Ns mainGlobals mg) {f : Addr} {oc kV doc pm cdv ct : Value} {od an : Option Addr} {osl : Array (Option Value)}
    (a : PySem.W.nsIn K mainGlobals "_law_pushes" = some (some (.ref f))) (l : K.lookup f = some ⟨oc, od, .func (PySem.W.fnOf "_law_pushes" "_law_pushes" (defArgs s_law_pushes) (defBody s_law_pushes) (defScope s_law_pushes) .none kV doc pm an cdv ct), osl⟩) (c : PySem.W.codeIn K cdv "_law_pushes" = true) (k : PySem.W.keepIn K (.ref f) = true) : DefAt K mg "_law_pushes" s_law_pushes ["tape", "form", "paths"] :=
  defAt_of X G (fun _ _ _ _ _ _ us hl => match us, hl with | [_, _, _], _ => rfl) a l c k
theorem da_law_refused {K : PySem.W.Frag} {h : Heap} {mg : Str → Option Value} (X : K.In h) (G : h.Ns mainGlobals mg) {f : Addr} {oc kV doc pm cdv ct : Value} {od an : Option Addr} {osl : Array (Option Value)}
    (a : PySem.W.nsIn K mainGlobals "_law_refused" = some (some (.ref f))) (l : K.lookup f = some ⟨oc, od, .func (PySem.W.fnOf "_law_refused" "_law_refused" (defArgs s_law_refused) (defBody s_law_refused) (defScope s_law_refused) .none kV doc pm an cdv ct), osl⟩) (c : PySem.W.codeIn K cdv "_law_refused" = true) (k : PySem.W.keepIn K (.ref f) = true) : DefAt K mg "_law_refused" s_law_refused ["form", "many"] :=
  defAt_of X G (fun _ _ _ _ _ _ us hl => match us, hl with | [_, _], _ => rfl) a l c k
theorem all_grow {P : Program} {w : World} {K : PySem.W.Frag} {mg : Str → Option Value} {base : Heap} {C f : Addr} {fd : FuncData} (F : Fun K "_grow" "ShapeTree._grow" s_ShapeTree_grow f fd) (b : Binds K fd ["self", "bough", "above", "side"] []) (T : Txt K mg) (TC : TCl K mg C f) :
    ∀ n, FnOk P w K mg base CX0 n f fd ["self", "bough", "above", "side"] (spGrow K C n)
  | 0 => by
    have no : ∀ vs H Q E, ¬ spGrow K C 0 vs H Q E := fun vs H Q E h => by
      obtain ⟨a, b, ab, dx, bs, T, u, p, fv, L, S, _, _, _, _, _, _, _, h, _⟩ := h
      exact absurd h (Nat.not_lt_zero _)
    exact ⟨fun vs H Q E h => absurd h (no vs H Q E), fun A outer s H args us vs Q E _ _ _ _ h => absurd h (no vs H Q E)⟩
  | n + 1 => ok_grow F b (all_grow F b T TC n) T TC
theorem law_ok {P : Program} {w : World} {K : PySem.W.Frag} {mg : Str → Option Value} {base : Heap} {C CS U B S PA fI fC fG fL ftI ftP ftO ftW : Addr} {fdC fdG fdL fdtI fdtP fdtO fdtW : FuncData} (N : NUT K mg U fI) (EE : EK K mg U B S PA) (T : Txt K mg) (mabs : mg "abs" = none) (mzip : mg "zip" = none) (TC : TCl K mg C fG) (SC : StCl K CS) (IS : IsS K mg CS) (mk : ∃ t, mg "MOST_CHILDREN" = some (.int 6 t))
    (mi : ∃ t, mg "MOST_INTEGERS" = some (.int 8 t)) (mr : ∃ t, mg "RANK_BOUND" = some (.int rankB t)) (mp : ∃ t, mg "PACKET_BOUND" = some (.int packB t))
    (FG : Fun K "_grow" "ShapeTree._grow" s_ShapeTree_grow fG fdG) (bG : Binds K fdG ["self", "bough", "above", "side"] []) (M : Mk K C fC) (gC : mg "ShapeTree" = some (.ref C)) (FC : Fun K "__init__" "ShapeTree.__init__" s_ShapeTree_init fC fdC) (bC : Binds K fdC ["self", "form"] [])
    (MS : Mk K CS ftI)
    (FtI : Fun K "__init__" "Standing.__init__" s_Standing_init ftI fdtI) (btI : Binds K fdtI ["self", "form"] []) (mtI : Meth K CS "__init__" ftI)
    (FtP : Fun K "push" "Standing.push" s_Standing_push ftP fdtP) (btP : Binds K fdtP ["self", "number", "queue", "ranks"] []) (mtP : Meth K CS "push" ftP)
    (FtO : Fun K "order" "Standing.order" s_Standing_order ftO fdtO) (btO : Binds K fdtO ["self"] []) (mtO : Meth K CS "order" ftO)
    (FtW : Fun K "twin" "Standing.twin" s_Standing_twin ftW fdtW) (btW : Binds K fdtW ["self"] []) (mtW : Meth K CS "twin" ftW)
    (D_is_integer : DefAt K mg "is_integer" s_is_integer ["thing"]) (D_is_number : DefAt K mg "is_number" s_is_number ["thing"]) (D_is_below : DefAt K mg "is_below" s_is_below ["thing", "bound"]) (D_need : DefAt K mg "need" s_need ["fits", "word"]) (D_is_shape : DefAt K mg "is_shape" s_is_shape ["thing"]) (D_has_forks_of : DefAt K mg "has_forks_of" s_has_forks_of ["thing", "least"]) (D_need_shape : DefAt K mg "need_shape" s_need_shape ["form", "word"]) (D_need_queue : DefAt K mg "need_queue" s_need_queue ["tree", "queue", "word"]) (D_shape_tree : DefAt K mg "shape_tree" s_shape_tree ["form", "word"]) (D_is_within : DefAt K mg "is_within" s_is_within ["tree", "node", "top"]) (D_meet_in : DefAt K mg "meet_in" s_meet_in ["tree", "one", "other"]) (D_side_toward : DefAt K mg "side_toward" s_side_toward ["tree", "node", "down"]) (D_is_rank : DefAt K mg "is_rank" s_is_rank ["thing"]) (D_fit_path : DefAt K mg "fit_path" s_fit_path ["tree", "queue", "thing"]) (D_place_behind : DefAt K mg "place_behind" s_place_behind ["line", "rank"]) (D_need_absent : DefAt K mg "need_absent" s_need_absent ["standing", "number"]) (D_order_at : DefAt K mg "order_at" s_order_at ["tree", "lines", "node"]) (D_standing_with : DefAt K mg "standing_with" s_standing_with ["form", "lines"]) (D_may_turn : (DefAt K mg "may_turn" s_may_turn ["form", "queue", "one", "other"]) ∧ KwAt K mg "may_turn" ["form", "queue", "one", "other"] ["other", "one", "queue", "form"] revL) (D_law_tape : DefAt K mg "_law_tape" s_law_tape ["script"]) (D_law_draw : DefAt K mg "_law_draw" s_law_draw ["tape", "many"]) (D_law_form : DefAt K mg "_law_form" s_law_form ["tape"]) (D_law_paths : DefAt K mg "_law_paths" s_law_paths ["form"]) (D_law_common : DefAt K mg "_law_common" s_law_common ["one", "other"]) (D_law_due : DefAt K mg "_law_due" s_law_due ["paths", "queue", "one", "other"]) (D_law_is : DefAt K mg "_law_is" s_law_is ["told", "due"]) (D_law_ask : DefAt K mg "_law_ask" s_law_ask ["named", "form", "queue", "one", "other"]) (D_law_triples : DefAt K mg "_law_triples" s_law_triples ["tape", "form", "paths"]) (D_law_slots : DefAt K mg "_law_slots" s_law_slots ["order", "side", "first", "second", "fresh"]) (D_law_turned : DefAt K mg "_law_turned" s_law_turned ["before", "after", "one", "other"]) (D_law_hop : DefAt K mg "_law_hop" s_law_hop ["tape", "form", "paths", "standing", "queues"]) (D_law_hops : DefAt K mg "_law_hops" s_law_hops ["tape", "form", "paths"]) (D_law_rank : DefAt K mg "_law_rank" s_law_rank ["tape", "manner"]) (D_law_pushes : DefAt K mg "_law_pushes" s_law_pushes ["tape", "form", "paths"]) (D_law_refused : DefAt K mg "_law_refused" s_law_refused ["form", "many"])
    (FL : Fun K "law" "law" s_law fL fdL) : FnOk P w K mg base CX0 30 fL fdL ["script"] (spLaw K) := by
  have GI := ok_integer (P := P) (w := w) (base := base) D_is_integer T
  have GNm := ok_number D_is_number GI
  have GB := ok_below D_is_below GNm
  have GN := ok_need (P := P) (w := w) (base := base) D_need N
  have GFo := ok_forks (P := P) (w := w) (base := base) D_has_forks_of T mk
  have GSh := ok_isShape D_is_shape GFo
  have GNS := ok_needShape (U := U) D_need_shape GSh GN
  have GG := all_grow (P := P) (w := w) (base := base) FG bG T TC 20
  have GIn := ok_init FC bG GG TC GNS
  have GQu := ok_need_queue (C := C) D_need_queue T TC GB GN
  have GST := ok_shapeTree D_shape_tree M gC bC GIn GNS
  have GR := ok_rank D_is_rank T mi mr GI
  have GFi := ok_fit (C := C) D_fit_path T TC GR
  have GBe := ok_behindL (P := P) (w := w) (base := base) D_place_behind T
  have GAb := ok_absent D_need_absent SC mp GB GN
  have FPu := ok_push FtP T mzip SC TC GAb GQu GN GFi GBe
  have GOA := ok_orderAt (P := P) (w := w) (base := base) D_order_at T TC 20
  have FOr := ok_orderF FtO T SC GOA
  have GWi := ok_within (P := P) (w := w) (base := base) D_is_within TC
  have GMe := ok_meet_in D_meet_in TC GWi
  have GSi := ok_side (P := P) (w := w) (base := base) D_side_toward TC
  have GMy := ok_may D_may_turn.1 TC GST GQu GMe GSi GWi
  have FMa := ok_made FtI SC TC GST
  have GWt := ok_with D_standing_with T T.enumerate T.list SC TC MS IS.mg btI FMa
  have FTw := ok_twin FtW SC TC GWt
  have MTw : MQ P w K mg base CS 27 "twin" ["self"] (spTwin K C CS) := ⟨_, _, mtW, twinQ FTw, btW⟩
  have MOr : MQ P w K mg base CS 21 "order" ["self"] (spOrdF K C CS) := ⟨_, _, mtO, FOr, btO⟩
  have MPu : MQ P w K mg base CS 5 "push" ["self", "number", "queue", "ranks"] (spPushQ K C CS) := ⟨_, _, mtP, pushQ FPu, btP⟩
  have GTa := ok_tape (P := P) (w := w) (base := base) D_law_tape T mabs
  have GDr := ok_draw (P := P) (w := w) (base := base) D_law_draw T
  have GFm := ok_form D_law_form T GDr
  have GPa := ok_paths (P := P) (w := w) (base := base) D_law_paths T
  have GCo := ok_common (P := P) (w := w) (base := base) D_law_common T
  have GDu := ok_due D_law_due T GCo
  have GIs := ok_is (P := P) (w := w) (base := base) D_law_is
  have GAs := ok_ask D_law_ask T N EE GMy D_may_turn.2
  have GTp := ok_triples D_law_triples T GDr GIs GDu GAs
  have GSl := ok_slots (P := P) (w := w) (base := base) D_law_slots T
  have GTu := ok_turned (P := P) (w := w) (base := base) D_law_turned
  have GHo := ok_hop D_law_hop T SC GDr GCo GSl GTu GAs MTw MPu MOr
  have GHs := ok_hops D_law_hops T SC MS IS.mg btI (madeQ FMa) GDr GHo MPu MOr
  have GRk := ok_rank1 D_law_rank T GDr
  have GPs := ok_pushes D_law_pushes T SC MS IS.mg btI (madeQ FMa) GDr GRk GTu GDu (mayQ GMy) MPu MOr
  have GRf := ok_refused D_law_refused T GAs
  exact ok_law FL T GTa GFm GPa GTp GHs GPs GRf
end K27
set_option Elab.async false
set_option linter.all false
set_option maxRecDepth 100000
namespace K27
open PySem PySem.Spec PyProof.Rows L2 Dt
theorem te_of {K : PySem.W.Frag} {U : Addr} (b : PySem.W.subIn K (.ref U) (.type "BaseException") = some true) (i : PySem.W.isClsIn K U = true) (t : PySem.W.typeIn K (.ref U) = some (.type "type")) (s : PySem.W.subIn K (.ref U) (.ref U) = some true) : PySem.W.exmOne K (.ref U) (.ref U) = some true := by
  unfold PySem.W.isClsIn at i
  unfold PySem.W.exmOne PySem.W.kitCls
  rw [b]
  simp [i, t, s]
theorem ex_of {K : PySem.W.Frag} {U B : Addr} (b : PySem.W.subIn K (.ref B) (.type "BaseException") = some true) (i : PySem.W.isClsIn K B = true) (t : PySem.W.typeIn K (.ref B) = some (.type "type")) (s : PySem.W.subIn K (.ref U) (.ref B) = some true) : PySem.W.exmOne K (.ref U) (.ref B) = some true := by
  unfold PySem.W.isClsIn at i
  unfold PySem.W.exmOne PySem.W.kitCls
  rw [b]
  simp [i, t, s]
theorem kit_of {K : PySem.W.Frag} {U B : Addr} {b : Bool} (ne : U ≠ B ∨ b = true) (i : PySem.W.isClsIn K B = true) (t : PySem.W.typeIn K (.ref B) = some (.type "type")) (s : PySem.W.subIn K (.ref U) (.ref B) = some b) : PySem.W.kitOne K (.ref U) (.ref B) = some b := by
  unfold PySem.W.isClsIn at i
  unfold PySem.W.kitOne PySem.W.kitCls
  by_cases e : U = B
  · subst e
    rcases ne with ne | ne
    · exact absurd rfl ne
    · rw [ne]
      simp
  · have : (Value.ref U == Value.ref B) = false := by
      simpa using e
    rw [this]
    simp [i, t, s]
theorem kit_ofT {K : PySem.W.Frag} {B : Addr} {t : String} {b : Bool} (i : PySem.W.isClsIn K B = true) (ty : PySem.W.typeIn K (.ref B) = some (.type "type")) (s : PySem.W.subIn K (.type t) (.ref B) = some b) : PySem.W.kitOne K (.type t) (.ref B) = some b := by
  unfold PySem.W.isClsIn at i
  unfold PySem.W.kitOne PySem.W.kitCls
  have : (Value.type t == Value.ref B) = false := by simp
  rw [this]
  simp [i, ty, s]
theorem all_mk {l : PySem.W.OpenLaw} {w : World} {K : PySem.W.Frag} {h : Heap} {mg : Str → Option Value} {fa C CS U B S PA fI fC fG ftI ftP ftO ftW : Addr} (X : K.In h) (G : h.Ns mainGlobals mg) (hfa : mg "law" = some (.ref fa))
    {ocI kVI docI pmI cdI ctI ocC kVC docC pmC cdC ctC ocG kVG docG pmG cdG ctG ocL kVL docL pmL cdL ctL : Value} {odI anI odC anC odG anG odL anL : Option Addr} {slI slC slG slL : Array (Option Value)}
    {nm q : Str} {NN : Addr} {bs bm : List Value} {sn : List Str} {sub : List Value} {ab : Bool} {col : Option Bool} {dd : Option Addr} {x0 x1 x2 x3 x5 : Option Value} {tM tI8 tR tP : Tok} {fL : Addr} {octI kVtI doctI pmtI cdtI cttI : Value} {odtI antI : Option Addr} {sltI : Array (Option Value)} {octP kVtP doctP pmtP cdtP cttP : Value} {odtP antP : Option Addr} {sltP : Array (Option Value)} {octO kVtO doctO pmtO cdtO cttO : Value} {odtO antO : Option Addr} {sltO : Array (Option Value)} {octW kVtW doctW pmtW cdtW cttW : Value} {odtW antW : Option Addr} {sltW : Array (Option Value)}
    (aU : PySem.W.nsIn K mainGlobals "NotUsable" = some (some (.ref U)))
    (xL : K.lookup U = some (excClassObj nm q U NN bs bm true sn sub ab col dd x0 x1 x2 x3 x5 "ValueError.__new__")) (xm : PySem.HandSPX.refsVE bm = true)
    (saU : PySem.W.findIn K (.ref U) "__setattr__" = some (some (.builtin "object.__setattr__"))) (exU : PySem.W.subIn K (.ref U) (.type "BaseException") = some true) (tyU : PySem.W.typeIn K (.ref U) = some (.type "type")) (kU : PySem.W.keepIn K (.ref U) = true)
    (xga : PySem.W.findIn K (.ref U) "__getattribute__" = some (some (.builtin "BaseException.__getattribute__"))) (xgg : PySem.W.findIn K (.ref U) "__getattr__" = some none) (xhd : PySem.W.hasDictIn K U = true) (nw : PySem.W.findIn K (.ref U) "word" = some none) (na : PySem.W.findIn K (.ref U) "at" = some none)
    (iI : PySem.W.findIn K (.ref U) "__init__" = some (some (.ref fI))) (tI : PySem.W.typeIn K (.ref fI) = some (.type "function")) (tc : PySem.W.isClsIn K U = true) (ts : PySem.W.subIn K (.ref U) (.ref U) = some true)
    (lI : K.lookup fI = some ⟨ocI, odI, .func (PySem.W.fnOf "__init__" "NotUsable.__init__" (defArgs s_NotUsable_init) (defBody s_NotUsable_init) (defScope s_NotUsable_init) .none kVI docI pmI anI cdI ctI), slI⟩) (cI : PySem.W.codeIn K cdI "NotUsable.__init__" = true) (kI : PySem.W.keepIn K (.ref fI) = true)
    (aC : PySem.W.nsIn K mainGlobals "ShapeTree" = some (some (.ref C))) (mM : PySem.W.nsIn K mainGlobals "MOST_CHILDREN" = some (some (.int 6 tM))) (mI : PySem.W.nsIn K mainGlobals "MOST_INTEGERS" = some (some (.int 8 tI8))) (mR : PySem.W.nsIn K mainGlobals "RANK_BOUND" = some (some (.int rankB tR))) (mP : PySem.W.nsIn K mainGlobals "PACKET_BOUND" = some (some (.int packB tP)))
    (aB : PySem.W.nsIn K mainGlobals "BoughError" = some (some (.ref B))) (aS : PySem.W.nsIn K mainGlobals "ShapeError" = some (some (.ref S))) (aP : PySem.W.nsIn K mainGlobals "InvalidPaper" = some (some (.ref PA)))
    (bB : PySem.W.subIn K (.ref B) (.type "BaseException") = some true) (iB : PySem.W.isClsIn K B = true) (tB : PySem.W.typeIn K (.ref B) = some (.type "type")) (sB : PySem.W.subIn K (.ref U) (.ref B) = some true)
    (iS : PySem.W.isClsIn K S = true) (tS : PySem.W.typeIn K (.ref S) = some (.type "type")) (sS : PySem.W.subIn K (.ref U) (.ref S) = some true)
    (iP : PySem.W.isClsIn K PA = true) (tP2 : PySem.W.typeIn K (.ref PA) = some (.type "type")) (sP : PySem.W.subIn K (.ref U) (.ref PA) = some false)
    (ha : PySem.W.findIn K (.ref U) "__class__" = some (some (.builtin "object.__class__"))) (hn : PySem.W.specialIn K (.builtin "object.__class__") "__get__" = some (some (.builtin "getset_descriptor.__get__"))) (ht : PySem.W.takesIn K (.builtin "object.__class__") = some true) (hm : PySem.W.mroIn K U (.type "object") = some true)
    (pg : PySem.W.plainGet K C Str.empty = true) (hd : PySem.W.hasDictIn K C = true) (po : PySem.W.plainOver K C = true) (sa : PySem.W.findIn K (.ref C) "__setattr__" = some (some (.builtin "object.__setattr__"))) (mk : PySem.W.makesIn K C = true) (kC : PySem.W.keepIn K (.ref C) = true)
    (iC : PySem.W.findIn K (.ref C) "__init__" = some (some (.ref fC))) (fC1 : PySem.W.isFn K (.ref fC) = true) (lC : K.lookup fC = some ⟨ocC, odC, .func (PySem.W.fnOf "__init__" "ShapeTree.__init__" (defArgs s_ShapeTree_init) (defBody s_ShapeTree_init) (defScope s_ShapeTree_init) .none kVC docC pmC anC cdC ctC), slC⟩) (cC : PySem.W.codeIn K cdC "ShapeTree.__init__" = true) (kC1 : PySem.W.keepIn K (.ref fC) = true)
    (iG : PySem.W.findIn K (.ref C) "_grow" = some (some (.ref fG))) (fG1 : PySem.W.isFn K (.ref fG) = true) (lG : K.lookup fG = some ⟨ocG, odG, .func (PySem.W.fnOf "_grow" "ShapeTree._grow" (defArgs s_ShapeTree_grow) (defBody s_ShapeTree_grow) (defScope s_ShapeTree_grow) .none kVG docG pmG anG cdG ctG), slG⟩) (cG : PySem.W.codeIn K cdG "ShapeTree._grow" = true) (kG : PySem.W.keepIn K (.ref fG) = true)
    (aL : PySem.W.nsIn K mainGlobals "law" = some (some (.ref fL))) (lL : K.lookup fL = some ⟨ocL, odL, .func (PySem.W.fnOf "law" "law" (defArgs s_law) (defBody s_law) (defScope s_law) .none kVL docL pmL anL cdL ctL), slL⟩) (cL : PySem.W.codeIn K cdL "law" = true) (kL : PySem.W.keepIn K (.ref fL) = true)
    (aT : PySem.W.nsIn K mainGlobals "Standing" = some (some (.ref CS))) (pgT : PySem.W.plainGet K CS Str.empty = true) (hdT : PySem.W.hasDictIn K CS = true) (poT : PySem.W.plainOver K CS = true) (saT : PySem.W.findIn K (.ref CS) "__setattr__" = some (some (.builtin "object.__setattr__"))) (mkT : PySem.W.makesIn K CS = true) (kCT : PySem.W.keepIn K (.ref CS) = true)
    (isT : PySem.W.isClsIn K CS = true) (tyT : PySem.W.typeIn K (.ref CS) = some (.type "type")) (s1T : PySem.W.subIn K (.type "int") (.ref CS) = some false) (s2T : PySem.W.subIn K (.type "bool") (.ref CS) = some false) (s3T : PySem.W.subIn K (.type "NoneType") (.ref CS) = some false) (s4T : PySem.W.subIn K (.type "str") (.ref CS) = some false) (s5T : PySem.W.subIn K (.type "tuple") (.ref CS) = some false) (s6T : PySem.W.subIn K (.type "list") (.ref CS) = some false)
    (haT : PySem.W.findIn K (.ref CS) "__class__" = some (some (.builtin "object.__class__"))) (hmT : PySem.W.mroIn K CS (.type "object") = some true) (nTt : PySem.W.findIn K (.ref CS) "tree" = some none) (nTl : PySem.W.findIn K (.ref CS) "lines" = some none) (nTs : PySem.W.findIn K (.ref CS) "seats" = some none)
    (itI : PySem.W.findIn K (.ref CS) "__init__" = some (some (.ref ftI))) (gtI : PySem.W.isFn K (.ref ftI) = true) (ltI : K.lookup ftI = some ⟨octI, odtI, .func (PySem.W.fnOf "__init__" "Standing.__init__" (defArgs s_Standing_init) (defBody s_Standing_init) (defScope s_Standing_init) .none kVtI doctI pmtI antI cdtI cttI), sltI⟩) (ctI : PySem.W.codeIn K cdtI "Standing.__init__" = true) (ktI : PySem.W.keepIn K (.ref ftI) = true)
    (itP : PySem.W.findIn K (.ref CS) "push" = some (some (.ref ftP))) (gtP : PySem.W.isFn K (.ref ftP) = true) (ltP : K.lookup ftP = some ⟨octP, odtP, .func (PySem.W.fnOf "push" "Standing.push" (defArgs s_Standing_push) (defBody s_Standing_push) (defScope s_Standing_push) .none kVtP doctP pmtP antP cdtP cttP), sltP⟩) (ctP : PySem.W.codeIn K cdtP "Standing.push" = true) (ktP : PySem.W.keepIn K (.ref ftP) = true)
    (itO : PySem.W.findIn K (.ref CS) "order" = some (some (.ref ftO))) (gtO : PySem.W.isFn K (.ref ftO) = true) (ltO : K.lookup ftO = some ⟨octO, odtO, .func (PySem.W.fnOf "order" "Standing.order" (defArgs s_Standing_order) (defBody s_Standing_order) (defScope s_Standing_order) .none kVtO doctO pmtO antO cdtO cttO), sltO⟩) (ctO : PySem.W.codeIn K cdtO "Standing.order" = true) (ktO : PySem.W.keepIn K (.ref ftO) = true)
    (itW : PySem.W.findIn K (.ref CS) "twin" = some (some (.ref ftW))) (gtW : PySem.W.isFn K (.ref ftW) = true) (ltW : K.lookup ftW = some ⟨octW, odtW, .func (PySem.W.fnOf "twin" "Standing.twin" (defArgs s_Standing_twin) (defBody s_Standing_twin) (defScope s_Standing_twin) .none kVtW doctW pmtW antW cdtW cttW), sltW⟩) (ctW : PySem.W.codeIn K cdtW "Standing.twin" = true) (ktW : PySem.W.keepIn K (.ref ftW) = true)
    (n0 : PySem.W.findIn K (.ref C) "form" = some none) (n1 : PySem.W.findIn K (.ref C) "boughs" = some none) (n2 : PySem.W.findIn K (.ref C) "parents" = some none) (n3 : PySem.W.findIn K (.ref C) "kids" = some none) (n4 : PySem.W.findIn K (.ref C) "depths" = some none) (n5 : PySem.W.findIn K (.ref C) "sides" = some none) (n6 : PySem.W.findIn K (.ref C) "lows" = some none) (n7 : PySem.W.findIn K (.ref C) "highs" = some none) (n8 : PySem.W.findIn K (.ref C) "ends" = some none) (n9 : PySem.W.findIn K (.ref C) "leaves" = some none) (n10 : PySem.W.findIn K (.ref C) "paths" = some none)
    (z0 : PySem.W.nsIn K mainGlobals "isinstance" = some none) (z1 : PySem.W.nsIn K mainGlobals "int" = some none) (z2 : PySem.W.nsIn K mainGlobals "bool" = some none) (z3 : PySem.W.nsIn K mainGlobals "tuple" = some none) (z4 : PySem.W.nsIn K mainGlobals "str" = some none) (z5 : PySem.W.nsIn K mainGlobals "len" = some none) (z6 : PySem.W.nsIn K mainGlobals "range" = some none) (z7 : PySem.W.nsIn K mainGlobals "enumerate" = some none) (z8 : PySem.W.nsIn K mainGlobals "sorted" = some none) (z9 : PySem.W.nsIn K mainGlobals "all" = some none) (z10 : PySem.W.nsIn K mainGlobals "min" = some none) (z11 : PySem.W.nsIn K mainGlobals "list" = some none) (z12 : PySem.W.nsIn K mainGlobals "abs" = some none) (z13 : PySem.W.nsIn K mainGlobals "zip" = some none)
    (D_is_integer : DefAt K mg "is_integer" s_is_integer ["thing"]) (D_is_number : DefAt K mg "is_number" s_is_number ["thing"]) (D_is_below : DefAt K mg "is_below" s_is_below ["thing", "bound"]) (D_need : DefAt K mg "need" s_need ["fits", "word"]) (D_is_shape : DefAt K mg "is_shape" s_is_shape ["thing"]) (D_has_forks_of : DefAt K mg "has_forks_of" s_has_forks_of ["thing", "least"]) (D_need_shape : DefAt K mg "need_shape" s_need_shape ["form", "word"]) (D_need_queue : DefAt K mg "need_queue" s_need_queue ["tree", "queue", "word"]) (D_shape_tree : DefAt K mg "shape_tree" s_shape_tree ["form", "word"]) (D_is_within : DefAt K mg "is_within" s_is_within ["tree", "node", "top"]) (D_meet_in : DefAt K mg "meet_in" s_meet_in ["tree", "one", "other"]) (D_side_toward : DefAt K mg "side_toward" s_side_toward ["tree", "node", "down"]) (D_is_rank : DefAt K mg "is_rank" s_is_rank ["thing"]) (D_fit_path : DefAt K mg "fit_path" s_fit_path ["tree", "queue", "thing"]) (D_place_behind : DefAt K mg "place_behind" s_place_behind ["line", "rank"]) (D_need_absent : DefAt K mg "need_absent" s_need_absent ["standing", "number"]) (D_order_at : DefAt K mg "order_at" s_order_at ["tree", "lines", "node"]) (D_standing_with : DefAt K mg "standing_with" s_standing_with ["form", "lines"]) (D_may_turn : (DefAt K mg "may_turn" s_may_turn ["form", "queue", "one", "other"]) ∧ KwAt K mg "may_turn" ["form", "queue", "one", "other"] ["other", "one", "queue", "form"] revL) (D_law_tape : DefAt K mg "_law_tape" s_law_tape ["script"]) (D_law_draw : DefAt K mg "_law_draw" s_law_draw ["tape", "many"]) (D_law_form : DefAt K mg "_law_form" s_law_form ["tape"]) (D_law_paths : DefAt K mg "_law_paths" s_law_paths ["form"]) (D_law_common : DefAt K mg "_law_common" s_law_common ["one", "other"]) (D_law_due : DefAt K mg "_law_due" s_law_due ["paths", "queue", "one", "other"]) (D_law_is : DefAt K mg "_law_is" s_law_is ["told", "due"]) (D_law_ask : DefAt K mg "_law_ask" s_law_ask ["named", "form", "queue", "one", "other"]) (D_law_triples : DefAt K mg "_law_triples" s_law_triples ["tape", "form", "paths"]) (D_law_slots : DefAt K mg "_law_slots" s_law_slots ["order", "side", "first", "second", "fresh"]) (D_law_turned : DefAt K mg "_law_turned" s_law_turned ["before", "after", "one", "other"]) (D_law_hop : DefAt K mg "_law_hop" s_law_hop ["tape", "form", "paths", "standing", "queues"]) (D_law_hops : DefAt K mg "_law_hops" s_law_hops ["tape", "form", "paths"]) (D_law_rank : DefAt K mg "_law_rank" s_law_rank ["tape", "manner"]) (D_law_pushes : DefAt K mg "_law_pushes" s_law_pushes ["tape", "form", "paths"]) (D_law_refused : DefAt K mg "_law_refused" s_law_refused ["form", "many"]) :
    ∃ fd : FuncData, (∀ (s : Shared) (v : Value), BindsTo s fd ⟨[v], []⟩ [("script", v)]) ∧ ∀ base : Heap, K.In base → base.Ns mainGlobals mg → FnOk l.prog w K mg base CX0 30 fa fd ["script"] (spLaw K) := by
  have e := hfa.symm.trans (PySem.W.mg_of X G aL)
  cases e
  have FI := fun_mk (st := s_NotUsable_init) lI cI kI
  have FC := fun_mk (st := s_ShapeTree_init) lC cC kC1
  have FG := fun_mk (st := s_ShapeTree_grow) lG cG kG
  have FL := fun_mk (st := s_law) lL cL kL
  have bI := FI.binds (ps := ["self", "word", "at"]) fun _ _ _ _ _ _ us hl => match us, hl with | [_, _, _], _ => rfl
  have bC := FC.binds (ps := ["self", "form"]) fun _ _ _ _ _ _ us hl => match us, hl with | [_, _], _ => rfl
  have bG := FG.binds (ps := ["self", "bough", "above", "side"]) fun _ _ _ _ _ _ us hl => match us, hl with | [_, _, _, _], _ => rfl
  have N : NUT K mg U fI := ⟨PySem.W.mg_of X G aU, ⟨⟨nm, q, NN, bs, bm, sn, sub, ab, col, dd, x0, x1, x2, x3, x5, xL, xm⟩, saU, exU, tyU, kU⟩, ⟨xga, xgg, exU, xhd⟩, nw, na, iI, tI, te_of exU tc tyU ts, _, FI, bI⟩
  have T : Txt K mg := ⟨PySem.W.mg_none_of X G z0, PySem.W.mg_none_of X G z1, PySem.W.mg_none_of X G z2, PySem.W.mg_none_of X G z3, PySem.W.mg_none_of X G z4, PySem.W.mg_none_of X G z5, PySem.W.mg_none_of X G z6, PySem.W.mg_none_of X G z7, PySem.W.mg_none_of X G z8, PySem.W.mg_none_of X G z9, PySem.W.mg_none_of X G z10, PySem.W.mg_none_of X G z11⟩
  have TC : TCl K mg C fG := ⟨⟨pg, hd, po, sa⟩, ⟨iG, fG1, kG⟩, n0, n1, n2, n3, n4, n5, n6, n7, n8, n9, n10⟩
  have nUP : U ≠ PA := fun z => by
    rw [← z, ts] at sP
    exact nomatch (Option.some.inj sP)
  have EE : EK K mg U B S PA := ⟨PySem.W.mg_of X G aB, PySem.W.mg_of X G aS, PySem.W.mg_of X G aP, ⟨xga, xgg, exU, xhd, ha, hn, ht, hm⟩, ex_of bB iB tB sB, kit_of (.inr rfl) iS tS sS, kit_of (.inl nUP) iP tP2 sP⟩
  have FtI := fun_mk (st := s_Standing_init) ltI ctI ktI
  have btI := FtI.binds (ps := ["self", "form"]) fun _ _ _ _ _ _ us hl => match us, hl with | [_, _], _ => rfl
  have FtP := fun_mk (st := s_Standing_push) ltP ctP ktP
  have btP := FtP.binds (ps := ["self", "number", "queue", "ranks"]) fun _ _ _ _ _ _ us hl => match us, hl with | [_, _, _, _], _ => rfl
  have FtO := fun_mk (st := s_Standing_order) ltO ctO ktO
  have btO := FtO.binds (ps := ["self"]) fun _ _ _ _ _ _ us hl => match us, hl with | [_], _ => rfl
  have FtW := fun_mk (st := s_Standing_twin) ltW ctW ktW
  have btW := FtW.binds (ps := ["self"]) fun _ _ _ _ _ _ us hl => match us, hl with | [_], _ => rfl
  have SC : StCl K CS := ⟨⟨pgT, hdT, poT, saT⟩, nTt, nTl, nTs⟩
  have IS : IsS K mg CS := ⟨PySem.W.mg_of X G aT, fun t h => by
    rcases h with rfl | rfl | rfl | rfl | rfl | rfl
    · exact kit_ofT isT tyT s1T
    · exact kit_ofT isT tyT s2T
    · exact kit_ofT isT tyT s3T
    · exact kit_ofT isT tyT s4T
    · exact kit_ofT isT tyT s5T
    · exact kit_ofT isT tyT s6T, haT, hn, ht, hmT⟩
  refine ⟨PySem.W.fnOf "law" "law" (defArgs s_law) (defBody s_law) (defScope s_law) .none kVL docL pmL anL cdL ctL, fun s v => .of_eq rfl, fun base _ _ => ?_⟩
  exact law_ok N EE T (PySem.W.mg_none_of X G z12) (PySem.W.mg_none_of X G z13) TC SC IS ⟨tM, PySem.W.mg_of X G mM⟩ ⟨tI8, PySem.W.mg_of X G mI⟩ ⟨tR, PySem.W.mg_of X G mR⟩ ⟨tP, PySem.W.mg_of X G mP⟩ FG bG ⟨mk, iC, fC1, kC⟩ (PySem.W.mg_of X G aC) FC bC ⟨mkT, itI, gtI, kCT⟩ FtI btI ⟨itI, gtI, ktI⟩ FtP btP ⟨itP, gtP, ktP⟩ FtO btO ⟨itO, gtO, ktO⟩ FtW btW ⟨itW, gtW, ktW⟩ D_is_integer D_is_number D_is_below D_need D_is_shape D_has_forks_of D_need_shape D_need_queue D_shape_tree D_is_within D_meet_in D_side_toward D_is_rank D_fit_path D_place_behind D_need_absent D_order_at D_standing_with D_may_turn D_law_tape D_law_draw D_law_form D_law_paths D_law_common D_law_due D_law_is D_law_ask D_law_triples D_law_slots D_law_turned D_law_hop D_law_hops D_law_rank D_law_pushes D_law_refused FL
end K27
set_option Elab.async false
set_option linter.all false
set_option maxRecDepth 100000
open PySem PySem.W PyProof.Rows
set_option maxRecDepth 100000 in
set_option maxHeartbeats 0 in
theorem PySem.Challenge.cw_nextbough_k27_whole_who_can_be_turned_holds : PySem.Challenge.rw_nextbough_k27_whole_who_can_be_turned.Holds := by
  w_on; o_law; k_head; (case hw => w_witness2)
  k_fill
  refine L2.walk_of (n := 63) (k := 30) (x := "script") (CX := fun _ => L2.CX0) (sp := fun w => K27.spLaw _) rfl (by decide) rfl ⟨rfl, by decide, by decide⟩ (fun w h Y => PySem.W.kIn_of Y) ?F (fun _ _ a ns hl _ hS => ⟨a, ns, rfl, hS, hl, fun _ => rfl⟩) fun _ _ _ _ _ z => z
  case F =>
    intro w mg fa h KX G hmg
    refine' K27.all_mk KX G hmg ?aU ?xL ?xm ?saU ?exU ?tyU ?kU ?xga ?xgg ?xhd ?nw ?na ?iI ?tI ?tc ?ts ?lI ?cI ?kI ?aC ?mM ?mI ?mR ?mP ?aB ?aS ?aP ?bB ?iB ?tB ?sB ?iS ?tS ?sS ?iP ?tP2 ?sP ?ha ?hn ?ht ?hm ?pg ?hd ?po ?sa ?mk ?kC ?iC ?fC1 ?lC ?cC ?kC1 ?iG ?fG1 ?lG ?cG ?kG ?aL ?lL ?cL ?kL ?aT ?pgT ?hdT ?poT ?saT ?mkT ?kCT ?isT ?tyT ?s1T ?s2T ?s3T ?s4T ?s5T ?s6T ?haT ?hmT ?nTt ?nTl ?nTs ?itI ?gtI ?ltI ?ctI ?ktI ?itP ?gtP ?ltP ?ctP ?ktP ?itO ?gtO ?ltO ?ctO ?ktO ?itW ?gtW ?ltW ?ctW ?ktW ?n0 ?n1 ?n2 ?n3 ?n4 ?n5 ?n6 ?n7 ?n8 ?n9 ?n10 ?z0 ?z1 ?z2 ?z3 ?z4 ?z5 ?z6 ?z7 ?z8 ?z9 ?z10 ?z11 ?z12 ?z13 ?Dis_integer ?Dis_number ?Dis_below ?Dneed ?Dis_shape ?Dhas_forks_of ?Dneed_shape ?Dneed_queue ?Dshape_tree ?Dis_within ?Dmeet_in ?Dside_toward ?Dis_rank ?Dfit_path ?Dplace_behind ?Dneed_absent ?Dorder_at ?Dstanding_with ?Dmay_turn ?Dlaw_tape ?Dlaw_draw ?Dlaw_form ?Dlaw_paths ?Dlaw_common ?Dlaw_due ?Dlaw_is ?Dlaw_ask ?Dlaw_triples ?Dlaw_slots ?Dlaw_turned ?Dlaw_hop ?Dlaw_hops ?Dlaw_rank ?Dlaw_pushes ?Dlaw_refused
    (case aU => k_is)
    (case xL => k_is)
    (case xm => rfl)
    (case saU => k_is)
    (case exU => k_is)
    (case tyU => k_is)
    (case kU => k_is)
    (case xga => k_is)
    (case xgg => k_is)
    (case xhd => k_is)
    (case nw => k_is)
    (case na => k_is)
    (case iI => k_is)
    (case tI => k_is)
    (case tc => k_is)
    (case ts => k_is)
    (case lI => k_is)
    (case cI => k_is)
    (case kI => k_is)
    (case aC => k_is)
    (case mM => k_is)
    (case mI => k_is)
    (case mR => k_is)
    (case mP => k_is)
    (case aB => k_is)
    (case aS => k_is)
    (case aP => k_is)
    (case bB => k_is)
    (case iB => k_is)
    (case tB => k_is)
    (case sB => k_is)
    (case iS => k_is)
    (case tS => k_is)
    (case sS => k_is)
    (case iP => k_is)
    (case tP2 => k_is)
    (case sP => k_is)
    (case ha => k_is)
    (case hn => k_is)
    (case ht => k_is)
    (case hm => k_is)
    (case pg => k_is)
    (case hd => k_is)
    (case po => k_is)
    (case sa => k_is)
    (case mk => k_is)
    (case kC => k_is)
    (case iC => k_is)
    (case fC1 => k_is)
    (case lC => k_is)
    (case cC => k_is)
    (case kC1 => k_is)
    (case iG => k_is)
    (case fG1 => k_is)
    (case lG => k_is)
    (case cG => k_is)
    (case kG => k_is)
    (case aL => k_is)
    (case lL => k_is)
    (case cL => k_is)
    (case kL => k_is)
    (case aT => k_is)
    (case pgT => k_is)
    (case hdT => k_is)
    (case poT => k_is)
    (case saT => k_is)
    (case mkT => k_is)
    (case kCT => k_is)
    (case isT => k_is)
    (case tyT => k_is)
    (case s1T => k_is)
    (case s2T => k_is)
    (case s3T => k_is)
    (case s4T => k_is)
    (case s5T => k_is)
    (case s6T => k_is)
    (case haT => k_is)
    (case hmT => k_is)
    (case nTt => k_is)
    (case nTl => k_is)
    (case nTs => k_is)
    (case itI => k_is)
    (case gtI => k_is)
    (case ltI => k_is)
    (case ctI => k_is)
    (case ktI => k_is)
    (case itP => k_is)
    (case gtP => k_is)
    (case ltP => k_is)
    (case ctP => k_is)
    (case ktP => k_is)
    (case itO => k_is)
    (case gtO => k_is)
    (case ltO => k_is)
    (case ctO => k_is)
    (case ktO => k_is)
    (case itW => k_is)
    (case gtW => k_is)
    (case ltW => k_is)
    (case ctW => k_is)
    (case ktW => k_is)
    (case n0 => k_is)
    (case n1 => k_is)
    (case n2 => k_is)
    (case n3 => k_is)
    (case n4 => k_is)
    (case n5 => k_is)
    (case n6 => k_is)
    (case n7 => k_is)
    (case n8 => k_is)
    (case n9 => k_is)
    (case n10 => k_is)
    (case z0 => k_is)
    (case z1 => k_is)
    (case z2 => k_is)
    (case z3 => k_is)
    (case z4 => k_is)
    (case z5 => k_is)
    (case z6 => k_is)
    (case z7 => k_is)
    (case z8 => k_is)
    (case z9 => k_is)
    (case z10 => k_is)
    (case z11 => k_is)
    (case z12 => k_is)
    (case z13 => k_is)
    (case Dis_integer => refine' K27.da_is_integer KX G ?a ?l ?c ?k; (case a => k_is); (case l => k_is); (case c => k_is); (case k => k_is))
    (case Dis_number => refine' K27.da_is_number KX G ?a ?l ?c ?k; (case a => k_is); (case l => k_is); (case c => k_is); (case k => k_is))
    (case Dis_below => refine' K27.da_is_below KX G ?a ?l ?c ?k; (case a => k_is); (case l => k_is); (case c => k_is); (case k => k_is))
    (case Dneed => refine' K27.da_need KX G ?a ?l ?c ?k; (case a => k_is); (case l => k_is); (case c => k_is); (case k => k_is))
    (case Dis_shape => refine' K27.da_is_shape KX G ?a ?l ?c ?k; (case a => k_is); (case l => k_is); (case c => k_is); (case k => k_is))
    (case Dhas_forks_of => refine' K27.da_has_forks_of KX G ?a ?l ?c ?k; (case a => k_is); (case l => k_is); (case c => k_is); (case k => k_is))
    (case Dneed_shape => refine' K27.da_need_shape KX G ?a ?l ?c ?k; (case a => k_is); (case l => k_is); (case c => k_is); (case k => k_is))
    (case Dneed_queue => refine' K27.da_need_queue KX G ?a ?l ?c ?k; (case a => k_is); (case l => k_is); (case c => k_is); (case k => k_is))
    (case Dshape_tree => refine' K27.da_shape_tree KX G ?a ?l ?c ?k; (case a => k_is); (case l => k_is); (case c => k_is); (case k => k_is))
    (case Dis_within => refine' K27.da_is_within KX G ?a ?l ?c ?k; (case a => k_is); (case l => k_is); (case c => k_is); (case k => k_is))
    (case Dmeet_in => refine' K27.da_meet_in KX G ?a ?l ?c ?k; (case a => k_is); (case l => k_is); (case c => k_is); (case k => k_is))
    (case Dside_toward => refine' K27.da_side_toward KX G ?a ?l ?c ?k; (case a => k_is); (case l => k_is); (case c => k_is); (case k => k_is))
    (case Dis_rank => refine' K27.da_is_rank KX G ?a ?l ?c ?k; (case a => k_is); (case l => k_is); (case c => k_is); (case k => k_is))
    (case Dfit_path => refine' K27.da_fit_path KX G ?a ?l ?c ?k; (case a => k_is); (case l => k_is); (case c => k_is); (case k => k_is))
    (case Dplace_behind => refine' K27.da_place_behind KX G ?a ?l ?c ?k; (case a => k_is); (case l => k_is); (case c => k_is); (case k => k_is))
    (case Dneed_absent => refine' K27.da_need_absent KX G ?a ?l ?c ?k; (case a => k_is); (case l => k_is); (case c => k_is); (case k => k_is))
    (case Dorder_at => refine' K27.da_order_at KX G ?a ?l ?c ?k; (case a => k_is); (case l => k_is); (case c => k_is); (case k => k_is))
    (case Dstanding_with => refine' K27.da_standing_with KX G ?a ?l ?c ?k; (case a => k_is); (case l => k_is); (case c => k_is); (case k => k_is))
    (case Dmay_turn => refine' K27.da_may_turn KX G ?a ?l ?c ?k; (case a => k_is); (case l => k_is); (case c => k_is); (case k => k_is))
    (case Dlaw_tape => refine' K27.da_law_tape KX G ?a ?l ?c ?k; (case a => k_is); (case l => k_is); (case c => k_is); (case k => k_is))
    (case Dlaw_draw => refine' K27.da_law_draw KX G ?a ?l ?c ?k; (case a => k_is); (case l => k_is); (case c => k_is); (case k => k_is))
    (case Dlaw_form => refine' K27.da_law_form KX G ?a ?l ?c ?k; (case a => k_is); (case l => k_is); (case c => k_is); (case k => k_is))
    (case Dlaw_paths => refine' K27.da_law_paths KX G ?a ?l ?c ?k; (case a => k_is); (case l => k_is); (case c => k_is); (case k => k_is))
    (case Dlaw_common => refine' K27.da_law_common KX G ?a ?l ?c ?k; (case a => k_is); (case l => k_is); (case c => k_is); (case k => k_is))
    (case Dlaw_due => refine' K27.da_law_due KX G ?a ?l ?c ?k; (case a => k_is); (case l => k_is); (case c => k_is); (case k => k_is))
    (case Dlaw_is => refine' K27.da_law_is KX G ?a ?l ?c ?k; (case a => k_is); (case l => k_is); (case c => k_is); (case k => k_is))
    (case Dlaw_ask => refine' K27.da_law_ask KX G ?a ?l ?c ?k; (case a => k_is); (case l => k_is); (case c => k_is); (case k => k_is))
    (case Dlaw_triples => refine' K27.da_law_triples KX G ?a ?l ?c ?k; (case a => k_is); (case l => k_is); (case c => k_is); (case k => k_is))
    (case Dlaw_slots => refine' K27.da_law_slots KX G ?a ?l ?c ?k; (case a => k_is); (case l => k_is); (case c => k_is); (case k => k_is))
    (case Dlaw_turned => refine' K27.da_law_turned KX G ?a ?l ?c ?k; (case a => k_is); (case l => k_is); (case c => k_is); (case k => k_is))
    (case Dlaw_hop => refine' K27.da_law_hop KX G ?a ?l ?c ?k; (case a => k_is); (case l => k_is); (case c => k_is); (case k => k_is))
    (case Dlaw_hops => refine' K27.da_law_hops KX G ?a ?l ?c ?k; (case a => k_is); (case l => k_is); (case c => k_is); (case k => k_is))
    (case Dlaw_rank => refine' K27.da_law_rank KX G ?a ?l ?c ?k; (case a => k_is); (case l => k_is); (case c => k_is); (case k => k_is))
    (case Dlaw_pushes => refine' K27.da_law_pushes KX G ?a ?l ?c ?k; (case a => k_is); (case l => k_is); (case c => k_is); (case k => k_is))
    (case Dlaw_refused => refine' K27.da_law_refused KX G ?a ?l ?c ?k; (case a => k_is); (case l => k_is); (case c => k_is); (case k => k_is))
