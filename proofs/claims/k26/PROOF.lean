import PyProof.Rows.All
import Wide.All
import OpenK.AllK
import Wide.FinOn
import PySem.Challenge.RW_nextbough_k26_whole_order_is_departures
import HandS.ForMost
import HandS.ForExc
import HandS.Deep
import HandS.TupAny
import HandS.TupMul
import HandS.ExcInit
import HandS.ExcField
import HandS.IsInst
import HandS.Conv
import HandS.Evl
import KE.GoesMore
import HandS.Walk
import HandS.TupLe
import HandS.NamedTupSort
import KE.GoesEnum
import HandS.Zip
import HandS.More
import HandS.Dict
import HandS.DictTup
import HandS.SetFor
import HandS.ExcIs
import KE.KExcIs
set_option Elab.async false
set_option linter.all false
set_option maxRecDepth 100000
set_option maxHeartbeats 2000000
namespace K26
open PySem PySem.Spec PyProof.Rows L2
def topS (i : Nat) : Stmt := PySem.Challenge.pw_nextbough_k26_whole_order_is_departures.main.body.getD i (.Pass ⟨0, 0, 0, 0⟩)
abbrev s_wall : Stmt := topS 0
abbrev N_wall : List Str := ["k"]
theorem sc_wall : FnScope N_wall ["k"] (defScope s_wall) := ⟨rfl, rfl, rfl, by decide +kernel, rfl, by decide +kernel, by decide +kernel⟩
abbrev s_InvalidPaper_init : Stmt := inClass (topS 5) 0
abbrev N_InvalidPaper_init : List Str := ["self", "word", "at"]
theorem sc_InvalidPaper_init : FnScope N_InvalidPaper_init ["self", "word", "at"] (defScope s_InvalidPaper_init) := ⟨rfl, rfl, rfl, by decide +kernel, rfl, by decide +kernel, by decide +kernel⟩
abbrev s_NotUsable_init : Stmt := inClass (topS 6) 0
abbrev N_NotUsable_init : List Str := ["self", "word", "at"]
theorem sc_NotUsable_init : FnScope N_NotUsable_init ["self", "word", "at"] (defScope s_NotUsable_init) := ⟨rfl, rfl, rfl, by decide +kernel, rfl, by decide +kernel, by decide +kernel⟩
abbrev s_is_integer : Stmt := topS 9
abbrev N_is_integer : List Str := ["thing"]
theorem sc_is_integer : FnScope N_is_integer ["thing"] (defScope s_is_integer) := ⟨rfl, rfl, rfl, by decide +kernel, rfl, by decide +kernel, by decide +kernel⟩
abbrev s_is_number : Stmt := topS 10
abbrev N_is_number : List Str := ["thing"]
theorem sc_is_number : FnScope N_is_number ["thing"] (defScope s_is_number) := ⟨rfl, rfl, rfl, by decide +kernel, rfl, by decide +kernel, by decide +kernel⟩
abbrev s_is_below : Stmt := topS 11
abbrev N_is_below : List Str := ["thing", "bound"]
theorem sc_is_below : FnScope N_is_below ["thing", "bound"] (defScope s_is_below) := ⟨rfl, rfl, rfl, by decide +kernel, rfl, by decide +kernel, by decide +kernel⟩
abbrev s_need : Stmt := topS 12
abbrev N_need : List Str := ["fits", "word"]
theorem sc_need : FnScope N_need ["fits", "word"] (defScope s_need) := ⟨rfl, rfl, rfl, by decide +kernel, rfl, by decide +kernel, by decide +kernel⟩
abbrev s_is_shape : Stmt := topS 15
abbrev N_is_shape : List Str := ["thing"]
theorem sc_is_shape : FnScope N_is_shape ["thing"] (defScope s_is_shape) := ⟨rfl, rfl, rfl, by decide +kernel, rfl, by decide +kernel, by decide +kernel⟩
abbrev s_has_forks_of : Stmt := topS 16
abbrev N_has_forks_of : List Str := ["thing", "least", "left", "part"]
theorem sc_has_forks_of : FnScope N_has_forks_of ["thing", "least"] (defScope s_has_forks_of) := ⟨rfl, rfl, rfl, by decide +kernel, rfl, by decide +kernel, by decide +kernel⟩
abbrev s_need_shape : Stmt := topS 17
abbrev N_need_shape : List Str := ["form", "word"]
theorem sc_need_shape : FnScope N_need_shape ["form", "word"] (defScope s_need_shape) := ⟨rfl, rfl, rfl, by decide +kernel, rfl, by decide +kernel, by decide +kernel⟩
abbrev s_ShapeTree_init : Stmt := inClass (topS 19) 0
abbrev N_ShapeTree_init : List Str := ["self", "form"]
theorem sc_ShapeTree_init : FnScope N_ShapeTree_init ["self", "form"] (defScope s_ShapeTree_init) := ⟨rfl, rfl, rfl, by decide +kernel, rfl, by decide +kernel, by decide +kernel⟩
abbrev s_ShapeTree_grow : Stmt := inClass (topS 19) 1
abbrev N_ShapeTree_grow : List Str := ["self", "bough", "above", "side", "node", "path", "kids", "place", "kid"]
theorem sc_ShapeTree_grow : FnScope N_ShapeTree_grow ["self", "bough", "above", "side"] (defScope s_ShapeTree_grow) := ⟨rfl, rfl, rfl, by decide +kernel, rfl, by decide +kernel, by decide +kernel⟩
abbrev s_ShapeTree_form_of : Stmt := inClass (topS 19) 2
abbrev N_ShapeTree_form_of : List Str := ["self"]
theorem sc_ShapeTree_form_of : FnScope N_ShapeTree_form_of ["self"] (defScope s_ShapeTree_form_of) := ⟨rfl, rfl, rfl, by decide +kernel, rfl, by decide +kernel, by decide +kernel⟩
abbrev s_ShapeTree_bough_of : Stmt := inClass (topS 19) 3
abbrev N_ShapeTree_bough_of : List Str := ["self", "node"]
theorem sc_ShapeTree_bough_of : FnScope N_ShapeTree_bough_of ["self", "node"] (defScope s_ShapeTree_bough_of) := ⟨rfl, rfl, rfl, by decide +kernel, rfl, by decide +kernel, by decide +kernel⟩
abbrev s_ShapeTree_parent_of : Stmt := inClass (topS 19) 4
abbrev N_ShapeTree_parent_of : List Str := ["self", "node"]
theorem sc_ShapeTree_parent_of : FnScope N_ShapeTree_parent_of ["self", "node"] (defScope s_ShapeTree_parent_of) := ⟨rfl, rfl, rfl, by decide +kernel, rfl, by decide +kernel, by decide +kernel⟩
abbrev s_ShapeTree_kids_of : Stmt := inClass (topS 19) 5
abbrev N_ShapeTree_kids_of : List Str := ["self", "node"]
theorem sc_ShapeTree_kids_of : FnScope N_ShapeTree_kids_of ["self", "node"] (defScope s_ShapeTree_kids_of) := ⟨rfl, rfl, rfl, by decide +kernel, rfl, by decide +kernel, by decide +kernel⟩
abbrev s_ShapeTree_depth_of : Stmt := inClass (topS 19) 6
abbrev N_ShapeTree_depth_of : List Str := ["self", "node"]
theorem sc_ShapeTree_depth_of : FnScope N_ShapeTree_depth_of ["self", "node"] (defScope s_ShapeTree_depth_of) := ⟨rfl, rfl, rfl, by decide +kernel, rfl, by decide +kernel, by decide +kernel⟩
abbrev s_ShapeTree_low_of : Stmt := inClass (topS 19) 7
abbrev N_ShapeTree_low_of : List Str := ["self", "node"]
theorem sc_ShapeTree_low_of : FnScope N_ShapeTree_low_of ["self", "node"] (defScope s_ShapeTree_low_of) := ⟨rfl, rfl, rfl, by decide +kernel, rfl, by decide +kernel, by decide +kernel⟩
abbrev s_ShapeTree_high_of : Stmt := inClass (topS 19) 8
abbrev N_ShapeTree_high_of : List Str := ["self", "node"]
theorem sc_ShapeTree_high_of : FnScope N_ShapeTree_high_of ["self", "node"] (defScope s_ShapeTree_high_of) := ⟨rfl, rfl, rfl, by decide +kernel, rfl, by decide +kernel, by decide +kernel⟩
abbrev s_ShapeTree_node_of : Stmt := inClass (topS 19) 9
abbrev N_ShapeTree_node_of : List Str := ["self", "queue"]
theorem sc_ShapeTree_node_of : FnScope N_ShapeTree_node_of ["self", "queue"] (defScope s_ShapeTree_node_of) := ⟨rfl, rfl, rfl, by decide +kernel, rfl, by decide +kernel, by decide +kernel⟩
abbrev s_ShapeTree_queue_at : Stmt := inClass (topS 19) 10
abbrev N_ShapeTree_queue_at : List Str := ["self", "node"]
theorem sc_ShapeTree_queue_at : FnScope N_ShapeTree_queue_at ["self", "node"] (defScope s_ShapeTree_queue_at) := ⟨rfl, rfl, rfl, by decide +kernel, rfl, by decide +kernel, by decide +kernel⟩
abbrev s_ShapeTree_path_of : Stmt := inClass (topS 19) 11
abbrev N_ShapeTree_path_of : List Str := ["self", "queue"]
theorem sc_ShapeTree_path_of : FnScope N_ShapeTree_path_of ["self", "queue"] (defScope s_ShapeTree_path_of) := ⟨rfl, rfl, rfl, by decide +kernel, rfl, by decide +kernel, by decide +kernel⟩
abbrev s_ShapeTree_meet_of : Stmt := inClass (topS 19) 12
abbrev N_ShapeTree_meet_of : List Str := ["self", "one", "other"]
theorem sc_ShapeTree_meet_of : FnScope N_ShapeTree_meet_of ["self", "one", "other"] (defScope s_ShapeTree_meet_of) := ⟨rfl, rfl, rfl, by decide +kernel, rfl, by decide +kernel, by decide +kernel⟩
abbrev s_ShapeTree_lies_in : Stmt := inClass (topS 19) 13
abbrev N_ShapeTree_lies_in : List Str := ["self", "node", "top"]
theorem sc_ShapeTree_lies_in : FnScope N_ShapeTree_lies_in ["self", "node", "top"] (defScope s_ShapeTree_lies_in) := ⟨rfl, rfl, rfl, by decide +kernel, rfl, by decide +kernel, by decide +kernel⟩
abbrev s_ShapeTree_toward : Stmt := inClass (topS 19) 14
abbrev N_ShapeTree_toward : List Str := ["self", "node", "down"]
theorem sc_ShapeTree_toward : FnScope N_ShapeTree_toward ["self", "node", "down"] (defScope s_ShapeTree_toward) := ⟨rfl, rfl, rfl, by decide +kernel, rfl, by decide +kernel, by decide +kernel⟩
abbrev s_need_node : Stmt := topS 20
abbrev N_need_node : List Str := ["tree", "node", "word"]
theorem sc_need_node : FnScope N_need_node ["tree", "node", "word"] (defScope s_need_node) := ⟨rfl, rfl, rfl, by decide +kernel, rfl, by decide +kernel, by decide +kernel⟩
abbrev s_need_queue : Stmt := topS 21
abbrev N_need_queue : List Str := ["tree", "queue", "word"]
theorem sc_need_queue : FnScope N_need_queue ["tree", "queue", "word"] (defScope s_need_queue) := ⟨rfl, rfl, rfl, by decide +kernel, rfl, by decide +kernel, by decide +kernel⟩
abbrev s_shape_tree : Stmt := topS 22
abbrev N_shape_tree : List Str := ["form", "word"]
theorem sc_shape_tree : FnScope N_shape_tree ["form", "word"] (defScope s_shape_tree) := ⟨rfl, rfl, rfl, by decide +kernel, rfl, by decide +kernel, by decide +kernel⟩
abbrev s_is_within : Stmt := topS 23
abbrev N_is_within : List Str := ["tree", "node", "top"]
theorem sc_is_within : FnScope N_is_within ["tree", "node", "top"] (defScope s_is_within) := ⟨rfl, rfl, rfl, by decide +kernel, rfl, by decide +kernel, by decide +kernel⟩
abbrev s_is_rank : Stmt := topS 27
abbrev N_is_rank : List Str := ["thing", "part"]
theorem sc_is_rank : FnScope N_is_rank ["thing"] (defScope s_is_rank) := ⟨rfl, rfl, rfl, by decide +kernel, rfl, by decide +kernel, by decide +kernel⟩
abbrev s_fit_path : Stmt := topS 28
abbrev N_fit_path : List Str := ["tree", "queue", "thing", "rank"]
theorem sc_fit_path : FnScope N_fit_path ["tree", "queue", "thing"] (defScope s_fit_path) := ⟨rfl, rfl, rfl, by decide +kernel, rfl, by decide +kernel, by decide +kernel⟩
abbrev s_place_behind : Stmt := topS 30
abbrev N_place_behind : List Str := ["line", "rank", "low", "high", "middle"]
theorem sc_place_behind : FnScope N_place_behind ["line", "rank"] (defScope s_place_behind) := ⟨rfl, rfl, rfl, by decide +kernel, rfl, by decide +kernel, by decide +kernel⟩
abbrev s_Standing_init : Stmt := inClass (topS 32) 0
abbrev N_Standing_init : List Str := ["self", "form", "_"]
theorem sc_Standing_init : FnScope N_Standing_init ["self", "form"] (defScope s_Standing_init) := ⟨rfl, rfl, rfl, by decide +kernel, rfl, by decide +kernel, by decide +kernel⟩
abbrev s_Standing_form_of : Stmt := inClass (topS 32) 1
abbrev N_Standing_form_of : List Str := ["self"]
theorem sc_Standing_form_of : FnScope N_Standing_form_of ["self"] (defScope s_Standing_form_of) := ⟨rfl, rfl, rfl, by decide +kernel, rfl, by decide +kernel, by decide +kernel⟩
abbrev s_Standing_push : Stmt := inClass (topS 32) 2
abbrev N_Standing_push : List Str := ["self", "number", "queue", "ranks", "path", "node", "items", "rank", "item", "line"]
theorem sc_Standing_push : FnScope N_Standing_push ["self", "number", "queue", "ranks"] (defScope s_Standing_push) := ⟨rfl, rfl, rfl, by decide +kernel, rfl, by decide +kernel, by decide +kernel⟩
abbrev s_Standing_depart : Stmt := inClass (topS 32) 3
abbrev N_Standing_depart : List Str := ["self", "ranks", "node", "rank", "child", "number", "queue"]
theorem sc_Standing_depart : FnScope N_Standing_depart ["self"] (defScope s_Standing_depart) := ⟨rfl, rfl, rfl, by decide +kernel, rfl, by decide +kernel, by decide +kernel⟩
abbrev s_Standing_line_of : Stmt := inClass (topS 32) 4
abbrev N_Standing_line_of : List Str := ["self", "node"]
theorem sc_Standing_line_of : FnScope N_Standing_line_of ["self", "node"] (defScope s_Standing_line_of) := ⟨rfl, rfl, rfl, by decide +kernel, rfl, by decide +kernel, by decide +kernel⟩
abbrev s_Standing_all_lines : Stmt := inClass (topS 32) 5
abbrev N_Standing_all_lines : List Str := ["self", "line"]
theorem sc_Standing_all_lines : FnScope N_Standing_all_lines ["self"] (defScope s_Standing_all_lines) := ⟨rfl, rfl, rfl, by decide +kernel, rfl, by decide +kernel, by decide +kernel⟩
abbrev s_Standing_order : Stmt := inClass (topS 32) 6
abbrev N_Standing_order : List Str := ["self"]
theorem sc_Standing_order : FnScope N_Standing_order ["self"] (defScope s_Standing_order) := ⟨rfl, rfl, rfl, by decide +kernel, rfl, by decide +kernel, by decide +kernel⟩
abbrev s_Standing_lies_at : Stmt := inClass (topS 32) 7
abbrev N_Standing_lies_at : List Str := ["self", "number"]
theorem sc_Standing_lies_at : FnScope N_Standing_lies_at ["self", "number"] (defScope s_Standing_lies_at) := ⟨rfl, rfl, rfl, by decide +kernel, rfl, by decide +kernel, by decide +kernel⟩
abbrev s_Standing_present : Stmt := inClass (topS 32) 8
abbrev N_Standing_present : List Str := ["self"]
theorem sc_Standing_present : FnScope N_Standing_present ["self"] (defScope s_Standing_present) := ⟨rfl, rfl, rfl, by decide +kernel, rfl, by decide +kernel, by decide +kernel⟩
abbrev s_Standing_many_present : Stmt := inClass (topS 32) 9
abbrev N_Standing_many_present : List Str := ["self"]
theorem sc_Standing_many_present : FnScope N_Standing_many_present ["self"] (defScope s_Standing_many_present) := ⟨rfl, rfl, rfl, by decide +kernel, rfl, by decide +kernel, by decide +kernel⟩
abbrev s_Standing_twin : Stmt := inClass (topS 32) 10
abbrev N_Standing_twin : List Str := ["self"]
theorem sc_Standing_twin : FnScope N_Standing_twin ["self"] (defScope s_Standing_twin) := ⟨rfl, rfl, rfl, by decide +kernel, rfl, by decide +kernel, by decide +kernel⟩
abbrev s_Standing_same_as : Stmt := inClass (topS 32) 11
abbrev N_Standing_same_as : List Str := ["self", "other"]
theorem sc_Standing_same_as : FnScope N_Standing_same_as ["self", "other"] (defScope s_Standing_same_as) := ⟨rfl, rfl, rfl, by decide +kernel, rfl, by decide +kernel, by decide +kernel⟩
abbrev s_need_standing : Stmt := topS 33
abbrev N_need_standing : List Str := ["standing", "word"]
theorem sc_need_standing : FnScope N_need_standing ["standing", "word"] (defScope s_need_standing) := ⟨rfl, rfl, rfl, by decide +kernel, rfl, by decide +kernel, by decide +kernel⟩
abbrev s_need_absent : Stmt := topS 34
abbrev N_need_absent : List Str := ["standing", "number"]
theorem sc_need_absent : FnScope N_need_absent ["standing", "number"] (defScope s_need_absent) := ⟨rfl, rfl, rfl, by decide +kernel, rfl, by decide +kernel, by decide +kernel⟩
abbrev s_standing_with : Stmt := topS 35
abbrev N_standing_with : List Str := ["form", "lines", "made", "line", "queue", "node", "entry"]
theorem sc_standing_with : FnScope N_standing_with ["form", "lines"] (defScope s_standing_with) := ⟨rfl, rfl, rfl, by decide +kernel, rfl, by decide +kernel, by decide +kernel⟩
abbrev s_order_at : Stmt := topS 36
abbrev N_order_at : List Str := ["tree", "lines", "node", "kids", "entry", "kid", "orders", "given", "order", "child"]
theorem sc_order_at : FnScope N_order_at ["tree", "lines", "node"] (defScope s_order_at) := ⟨rfl, rfl, rfl, by decide +kernel, rfl, by decide +kernel, by decide +kernel⟩
abbrev s_order_of : Stmt := topS 38
abbrev N_order_of : List Str := ["standing", "node"]
theorem sc_order_of : FnScope N_order_of ["standing", "node"] (defScope s_order_of) := ⟨rfl, rfl, rfl, by decide +kernel, rfl, by decide +kernel, by decide +kernel⟩
abbrev s_place_of : Stmt := topS 39
abbrev N_place_of : List Str := ["standing", "node", "number", "queue"]
theorem sc_place_of : FnScope N_place_of ["standing", "node", "number"] (defScope s_place_of) := ⟨rfl, rfl, rfl, by decide +kernel, rfl, by decide +kernel, by decide +kernel⟩
abbrev s_law_tape : Stmt := topS 41
abbrev N_law_tape : List Str := ["script", "cell"]
theorem sc_law_tape : FnScope N_law_tape ["script"] (defScope s_law_tape) := ⟨rfl, rfl, rfl, by decide +kernel, rfl, by decide +kernel, by decide +kernel⟩
abbrev s_law_draw : Stmt := topS 42
abbrev N_law_draw : List Str := ["tape", "many", "cell", "pick"]
theorem sc_law_draw : FnScope N_law_draw ["tape", "many"] (defScope s_law_draw) := ⟨rfl, rfl, rfl, by decide +kernel, rfl, by decide +kernel, by decide +kernel⟩
abbrev s_law_same : Stmt := topS 43
abbrev N_law_same : List Str := ["one", "other", "k"]
theorem sc_law_same : FnScope N_law_same ["one", "other"] (defScope s_law_same) := ⟨rfl, rfl, rfl, by decide +kernel, rfl, by decide +kernel, by decide +kernel⟩
abbrev s_law_form : Stmt := topS 44
abbrev N_law_form : List Str := ["tape", "k", "parts", "single", "turn", "at", "wide"]
theorem sc_law_form : FnScope N_law_form ["tape"] (defScope s_law_form) := ⟨rfl, rfl, rfl, by decide +kernel, rfl, by decide +kernel, by decide +kernel⟩
abbrev s_law_tree : Stmt := topS 45
abbrev N_law_tree : List Str := ["form", "nodes", "kids", "paths", "todo", "turn", "part", "up", "which", "me", "last", "k", "path", "step"]
theorem sc_law_tree : FnScope N_law_tree ["form"] (defScope s_law_tree) := ⟨rfl, rfl, rfl, by decide +kernel, rfl, by decide +kernel, by decide +kernel⟩
abbrev s_law_take : Stmt := topS 46
abbrev N_law_take : List Str := ["tree", "bags", "start", "node", "ranks", "turn", "first", "path"]
theorem sc_law_take : FnScope N_law_take ["tree", "bags", "start"] (defScope s_law_take) := ⟨rfl, rfl, rfl, by decide +kernel, rfl, by decide +kernel, by decide +kernel⟩
abbrev s_law_push : Stmt := topS 47
abbrev N_law_push : List Str := ["tree", "bags", "came", "packet", "queue", "ranks", "path", "k", "item"]
theorem sc_law_push : FnScope N_law_push ["tree", "bags", "came", "packet", "queue", "ranks"] (defScope s_law_push) := ⟨rfl, rfl, rfl, by decide +kernel, rfl, by decide +kernel, by decide +kernel⟩
abbrev s_law_row : Stmt := topS 48
abbrev N_law_row : List Str := ["tree", "bags", "start", "bag", "kept", "k"]
theorem sc_law_row : FnScope N_law_row ["tree", "bags", "start"] (defScope s_law_row) := ⟨rfl, rfl, rfl, by decide +kernel, rfl, by decide +kernel, by decide +kernel⟩
abbrev s_law_rank : Stmt := topS 49
abbrev N_law_rank : List Str := ["tape", "manner", "k", "edge", "menu"]
theorem sc_law_rank : FnScope N_law_rank ["tape", "manner"] (defScope s_law_rank) := ⟨rfl, rfl, rfl, by decide +kernel, rfl, by decide +kernel, by decide +kernel⟩
abbrev s_law_ask : Stmt := topS 50
abbrev N_law_ask : List Str := ["word", "standing", "node", "number", "e"]
theorem sc_law_ask : FnScope N_law_ask ["word", "standing", "node", "number"] (defScope s_law_ask) := ⟨rfl, rfl, rfl, by decide +kernel, rfl, by decide +kernel, by decide +kernel⟩
abbrev s_law_held : Stmt := topS 51
abbrev N_law_held : List Str := ["tree", "bags", "node", "held", "path", "entry"]
theorem sc_law_held : FnScope N_law_held ["tree", "bags", "node"] (defScope s_law_held) := ⟨rfl, rfl, rfl, by decide +kernel, rfl, by decide +kernel, by decide +kernel⟩
abbrev s_law_looks : Stmt := topS 52
abbrev N_law_looks : List Str := ["tape", "tree", "bags", "standing", "absent", "row", "lines", "node", "held", "packet", "due", "word", "k", "place"]
theorem sc_law_looks : FnScope N_law_looks ["tape", "tree", "bags", "standing", "absent"] (defScope s_law_looks) := ⟨rfl, rfl, rfl, by decide +kernel, rfl, by decide +kernel, by decide +kernel⟩
abbrev s_law_departed : Stmt := topS 53
abbrev N_law_departed : List Str := ["tree", "bags", "standing", "row", "bag", "kept", "lines", "held", "k", "due"]
theorem sc_law_departed : FnScope N_law_departed ["tree", "bags", "standing"] (defScope s_law_departed) := ⟨rfl, rfl, rfl, by decide +kernel, rfl, by decide +kernel, by decide +kernel⟩
abbrev s_law_last : Stmt := topS 54
abbrev N_law_last : List Str := ["tape", "tree", "bags", "standing", "packet", "row", "edge", "great", "held", "queue", "node", "told", "due"]
theorem sc_law_last : FnScope N_law_last ["tape", "tree", "bags", "standing", "packet"] (defScope s_law_last) := ⟨rfl, rfl, rfl, by decide +kernel, rfl, by decide +kernel, by decide +kernel⟩
abbrev s_law_refused : Stmt := topS 55
abbrev N_law_refused : List Str := ["tree", "standing", "form", "bads", "bad", "word"]
theorem sc_law_refused : FnScope N_law_refused ["tree", "standing", "form"] (defScope s_law_refused) := ⟨rfl, rfl, rfl, by decide +kernel, rfl, by decide +kernel, by decide +kernel⟩
abbrev s_law : Stmt := topS 56
abbrev N_law : List Str := ["script", "tape", "form", "tree", "node", "bags", "standing", "manner", "many", "base", "step", "look", "k", "queue", "ranks"]
theorem sc_law : FnScope N_law ["script"] (defScope s_law) := ⟨rfl, rfl, rfl, by decide +kernel, rfl, by decide +kernel, by decide +kernel⟩
end K26
set_option Elab.async false
set_option linter.all false
set_option maxRecDepth 100000
set_option maxHeartbeats 2000000
namespace K26
open PySem PySem.Spec PyProof.Rows L2

/-! ### kinds of values -/
/-- the kinds that come: by the name of the type -/
def KindV (K : PySem.W.Frag) (H : Hp) (x : V) (t : String) : Prop := TyX K H x (.type t) ∧ (t = "int" ∨ t = "bool" ∨ t = "NoneType" ∨ t = "str" ∨ t = "tuple" ∨ t = "list")
/-- a value seen as an integer, or none -/
def NumV (K : PySem.W.Frag) (H : Hp) (x : V) : Option Int → Prop
  | some i => x = .int i
  | none => ∃ t, KindV K H x t ∧ t ≠ "int"
theorem kind_int {K : PySem.W.Frag} {H : Hp} (i : Int) : KindV K H (.int i) "int" := ⟨.base (.int i), .inl rfl⟩
theorem kind_bl {K : PySem.W.Frag} {H : Hp} (b : Bool) : KindV K H (.bl b) "bool" := ⟨.base (.bl b), .inr (.inl rfl)⟩
theorem kind_non {K : PySem.W.Frag} {H : Hp} : KindV K H .non "NoneType" := ⟨.base .non, .inr (.inr (.inl rfl))⟩
theorem kind_str {K : PySem.W.Frag} {H : Hp} (s : Str) : KindV K H (.str s) "str" := ⟨.base (.str s), .inr (.inr (.inr (.inl rfl)))⟩
theorem kind_tup {K : PySem.W.Frag} {H : Hp} {a : Addr} {xs : List V} (h : H a = some (.tup xs)) : KindV K H (.ref a) "tuple" := ⟨.base (.tup h), .inr (.inr (.inr (.inr (.inl rfl))))⟩
theorem kind_lst {K : PySem.W.Frag} {H : Hp} {a : Addr} {xs : List V} (h : H a = some (.lst xs)) : KindV K H (.ref a) "list" := ⟨.base (.lst h), .inr (.inr (.inr (.inr (.inr rfl))))⟩
theorem kit_int {t : String} (h : t = "int" ∨ t = "bool" ∨ t = "NoneType" ∨ t = "str" ∨ t = "tuple" ∨ t = "list") : kitB t "int" = some (t == "int" || t == "bool") := by
  rcases h with rfl | rfl | rfl | rfl | rfl | rfl <;> decide +kernel
theorem kit_bool {t : String} (h : t = "int" ∨ t = "bool" ∨ t = "NoneType" ∨ t = "str" ∨ t = "tuple" ∨ t = "list") : kitB t "bool" = some (t == "bool") := by
  rcases h with rfl | rfl | rfl | rfl | rfl | rfl <;> decide +kernel
theorem kit_tup {t : String} (h : t = "int" ∨ t = "bool" ∨ t = "NoneType" ∨ t = "str" ∨ t = "tuple" ∨ t = "list") : kitB t "tuple" = some (t == "tuple") := by
  rcases h with rfl | rfl | rfl | rfl | rfl | rfl <;> decide +kernel
theorem kit_str {t : String} (h : t = "int" ∨ t = "bool" ∨ t = "NoneType" ∨ t = "str" ∨ t = "tuple" ∨ t = "list") : kitB t "str" = some (t == "str") := by
  rcases h with rfl | rfl | rfl | rfl | rfl | rfl <;> decide +kernel
abbrev tIsi (K : PySem.W.Frag) (i : Nat) (c : String) : TE := tCB (rIsi K) (tCons (tVar i) (tCons (tC (.ty c)) tNil))
theorem isi_read {K : PySem.W.Frag} {σ : L2.St} {H : Hp} {i : Nat} {x : V} {c t : String} {b : Bool} {Q : VK} (hσ : σ[i]? = some (some x)) (ht : TyX K H x (.type t)) (hk : kitB t c = some b) (q : Q (.bl b) H) : tIsi K i c σ H Q :=
  ⟨x, hσ, x, .ty c, .type t, .type c, b, rfl, .ty c, ht, kit_ty hk, q⟩
/-! ### the top's facts -/
structure Txt (K : PySem.W.Frag) (mg : Str → Option Value) : Prop where
  isinstance : mg "isinstance" = none
  int : mg "int" = none
  bool : mg "bool" = none
  tuple : mg "tuple" = none
  str : mg "str" = none
  len : mg "len" = none
  range : mg "range" = none
  enumerate : mg "enumerate" = none
  sorted : mg "sorted" = none
  all : mg "all" = none
  min : mg "min" = none
  list : mg "list" = none
section
variable {P : Program} {w : World} {K : PySem.W.Frag} {mg : Str → Option Value} {base : Heap}
/-! ### is_integer, is_number, is_below -/
def spInteger (K : PySem.W.Frag) : Sp := fun vs H Q _ => ∃ x o, vs = [x] ∧ NumV K H x o ∧ Q (.bl o.isSome) H
theorem ok_is_integer {f : Addr} {fd : FuncData} (F : Fun K "is_integer" "is_integer" s_is_integer f fd) (T : Txt K mg) : FnOk P w K mg base CX0 1 f fd ["thing"] (spInteger K) := by
  refine F.ok sc_is_integer (fun vs H Q E h => ?_) (fun cdv A outer s H vs Q E hr h => ?_)
  · obtain ⟨x, o, rfl, _⟩ := h
    rfl
  obtain ⟨x, o, rfl, hx, q⟩ := h
  refine ⟨_, pss_one (ps_ret (pe_and (pe_callB call_isi (by rfl) T.isinstance boot_isinstance (pa_cons (pv 0) (pa_cons (pe_bltn (v := .ty "int") (by rfl) T.int boot_int rfl) pa_nil)))
    (pe_one (pe_not (pe_callB call_isi (by rfl) T.isinstance boot_isinstance (pa_cons (pv 0) (pa_cons (pe_bltn (v := .ty "bool") (by rfl) T.bool (by decide +kernel) rfl) pa_nil))))))), ?_⟩
  cases o with
  | some i =>
    obtain rfl : x = .int i := hx
    refine isi_read rfl (kind_int i).1 (kit_int (kind_int (K := K) (H := H) i).2) ⟨_, rfl, ?_⟩
    refine iteT ?_
    exact isi_read rfl (kind_int i).1 (kit_bool (kind_int (K := K) (H := H) i).2) ⟨_, rfl, q⟩
  | none =>
    obtain ⟨t, ht, hn⟩ := hx
    refine isi_read rfl ht.1 (kit_int ht.2) ⟨_, rfl, ?_⟩
    have e1 : (t == "int") = false := by simpa using hn
    rw [e1, Bool.false_or]
    cases e2 : (t == "bool") with
    | false => exact iteF q
    | true =>
      refine iteT ?_
      refine isi_read rfl ht.1 (kit_bool ht.2) ⟨_, rfl, ?_⟩
      rw [e2]
      exact q
end
end K26
set_option Elab.async false
set_option linter.all false
set_option maxRecDepth 100000
set_option maxHeartbeats 4000000
namespace L2
open PySem PySem.Spec PyProof.Rows
/-! ### a def by its name, with what it promises -/
structure DefAt (K : PySem.W.Frag) (mg : Str → Option Value) (x : Str) (st : Stmt) (ps : List Str) : Prop where
  ex : ∃ (f : Addr) (fd : FuncData), Fun K x x st f fd ∧ mg x = some (.ref f) ∧ Binds K fd ps []
/-- the function's own object -/
def LkF (K : PySem.W.Frag) (f : Addr) (fd : FuncData) : Prop := ∃ (oc : Value) (od : Option Addr) (osl : Array (Option Value)), K.lookup f = some ⟨oc, od, .func fd, osl⟩
theorem LkF.inj {K : PySem.W.Frag} {f : Addr} {fd fd' : FuncData} (a : LkF K f fd) (b : LkF K f fd') : fd = fd' := by
  obtain ⟨oc, od, osl, h⟩ := a
  obtain ⟨oc', od', osl', h'⟩ := b
  rw [h] at h'
  injection h' with h'
  injection h' with _ _ h' _
  injection h'
theorem fun_lk {K : PySem.W.Frag} {x q : Str} {st : Stmt} {f : Addr} {fd : FuncData} (F : Fun K x q st f fd) : LkF K f fd := by
  obtain ⟨oc, od, kV, doc, pm, an, cdv, ct, osl, rfl, lk, _⟩ := F.ex
  exact ⟨oc, od, osl, lk⟩
structure CalX (P : Program) (w : World) (K : PySem.W.Frag) (mg : Str → Option Value) (base : Heap) (CX : CXT) (k : Nat) (x : Str) (ps : List Str) (sp : Sp) : Prop where
  ex : ∃ (f : Addr) (fd : FuncData), FnOk P w K mg base CX k f fd ps sp ∧ mg x = some (.ref f) ∧ PySem.W.keepIn K (.ref f) = true ∧ Binds K fd ps [] ∧ LkF K f fd
section
variable {P : Program} {w : World} {K : PySem.W.Frag} {mg : Str → Option Value} {base : Heap} {x : Str} {st : Stmt} {N ps : List Str} {k j : Nat} {sp : Sp} {CX : CXT}
theorem CalX.mono (c : CalX P w K mg base CX k x ps sp) (h : k ≤ j) : CalX P w K mg base CX j x ps sp := by
  obtain ⟨f, fd, F, a, b, d⟩ := c.ex
  exact ⟨f, fd, F.mono h, a, b, d⟩
theorem DefAt.ok (D : DefAt K mg x st ps) (S : FnScope N ps (defScope st)) (len : ∀ vs H Q E, sp vs H Q E → vs.length = ps.length)
    (hbody : ∀ (f : Addr) (cdv : Value) (A : Around) (outer : List Env) (s : Shared) (H : Hp) (vs : List V) (Q : VK) (E : XK), Room k (A.deeper (envOfC x (defScope st) s.heap.objs.size f cdv)) → sp vs H Q E →
      ∃ t, PSs (cxOf CX0 P w K mg base N x (defScope st) f cdv A outer s H E).nox (defBody st) t ∧ t { nx := fun _ H' => Q .non H', rt := Q } (start N vs) H) : CalX P w K mg base CX0 (k + 1) x ps sp := by
  obtain ⟨f, fd, F, m, b⟩ := D.ex
  exact ⟨f, fd, F.ok S len (hbody f), m, F.kp, b, fun_lk F⟩
end
/-! a def that may raise -/
section
variable {P : Program} {w : World} {K : PySem.W.Frag} {mg : Str → Option Value} {base : Heap} {x : Str} {st : Stmt} {N ps : List Str} {k j : Nat} {sp : Sp}
theorem DefAt.okX (D : DefAt K mg x st ps) (S : FnScope N ps (defScope st)) (len : ∀ vs H Q E, sp vs H Q E → vs.length = ps.length)
    (hbody : ∀ (f : Addr) (cdv : Value) (A : Around) (outer : List Env) (s : Shared) (H : Hp) (vs : List V) (Q : VK) (E : XK), Room k (A.deeper (envOfC x (defScope st) s.heap.objs.size f cdv)) → sp vs H Q E →
      ∃ t, PSs (cxOf (L2.CX P w) P w K mg base N x (defScope st) f cdv A outer s H E) (defBody st) t ∧ t { nx := fun _ H' => Q .non H', rt := Q } (start N vs) H) : CalX P w K mg base (L2.CX P w) (k + 1) x ps sp := by
  obtain ⟨f, fd, F, m, b⟩ := D.ex
  exact ⟨f, fd, F.okX S len (hbody f), m, F.kp, b, fun_lk F⟩
end
section
variable {X : Cx} {CX : CXT} {j k : Nat} {x : Str} {ps : List Str} {sp : Sp} {E : XK} {p pos : Pos} {e : Expr} {es : List Expr} {t : TA}
theorem pe_cx (c : CalX X.prog X.w X.K X.mg X.base CX k x ps sp) (hr : Room j X.A) (hk : k ≤ j) (hg : Gl X x) (hx : Passes CX X E) (ha : PA X (e :: es) t)
    (hdb : (x == ("__debug__" : Str)) = false := by decide) (he : starEach (e :: es) X.env = (false, eval e X.env) :: starEach es X.env := by rfl) (hpl : (backTo pos (starEach es X.env)).any (·.1) = false := by rfl) :
    PE X (.Call (.Name x p) (e :: es) [] pos) (tCall sp [] E t) := by
  obtain ⟨f, fd, F, hm, kp, b, _⟩ := c.ex
  exact pe_call F (hr.mono hk) hg hm kp b .nil hx ha hdb he hpl
/-- a callee that lets nothing out -/
theorem pe_c0 (c : CalX X.prog X.w X.K X.mg X.base CX0 k x ps sp) (hr : Room j X.A) (hk : k ≤ j) (hg : Gl X x) (ha : PA X (e :: es) t)
    (hdb : (x == ("__debug__" : Str)) = false := by decide) (he : starEach (e :: es) X.env = (false, eval e X.env) :: starEach es X.env := by rfl) (hpl : (backTo pos (starEach es X.env)).any (·.1) = false := by rfl) :
    PE X (.Call (.Name x p) (e :: es) [] pos) (tCall sp [] E0 t) := pe_cx c hr hk hg pass0 ha hdb he hpl
end
/-! ### xs.extend(t), t a tuple -/
theorem list_extend_tup (l : Addr) (items : Array Value) (n : Nat) (b : Addr) (ob : Obj) (items2 : Array Value) (n2 : Nat) (hs0 : ¬(!items.isEmpty && Builtin.List.listTooLong (items.size + items2.size)) = true) (hs1 : items.size ≤ sizeLine) (hs2 : items.size + items2.size ≤ sizeLine + 1) :
    Meets (Builtin.«list.extend» ⟨[.ref l, .ref b], []⟩) (fun _ R s => s.heap.get? l = some { cls := .type "list", dict := none, data := .seq items n, slots := #[] } ∧ s.heap.get? b = some ob ∧ ob.cls = .type "tuple" ∧ ob.data = .seq items2 n2 ∧ R (.ok (.ret Value.none)) { s with heap := s.heap.update l (Obj.mapSeq fun x => x ++ items2), toks := s.toks }) :=
  .of_wp fun prog w A R s h => by
    obtain ⟨hp, g, d, tk, os⟩ := s
    obtain ⟨hl, hb, hc, hd, h⟩ := h
    have hz' : (items ++ items2).size ≤ sizeLine + 1 := by rw [Array.size_append]; exact hs2
    show wpAny _ A.in1 (Builtin.List.listExtendWith (.ref l) (.ref b) .none) _ _ _
    unfold Builtin.List.listExtendWith
    refine wpAny_bind (wpAny_typeOf ⟨ob, hb, hc⟩ ?_)
    have h1 : (Builtin.List.listSameRef (.ref l) (.ref b) || Value.type "tuple" == Value.type "list" || Value.type "tuple" == Value.type "tuple") = true := by simp
    simp only [h1, if_true]
    refine wpAny_bind ?_
    unfold Builtin.List.listItems
    refine wpAny_bind (wpAny_seqItems hb hd (wpAny_pure ?_))
    refine wpAny_bind ?_
    refine wpAny_bind (wpAny_seqItems hl rfl (wpAny_pure ?_))
    simp only [hs0]
    show wpAny _ A.in1 (updateSeq l (· ++ items2) >>= fun _ => ret .none) _ _ _
    refine wpAny_bind (wpAny_updateSeq hl rfl ?_ hs1 hz')
    exact wpAny_pure ⟨_, rfl, h⟩
section
variable {X : Cx}
def rExtendT (K : PySem.W.Frag) : V → List V → Hp → VK → Prop := fun x vs H Q => ∃ l b xs zs, x = .ref l ∧ vs = [.ref b] ∧ H l = some (.lst xs) ∧ SqT K H b zs ∧ xs.length + zs.length ≤ sizeLine ∧ Q .non (upd H l (.lst (xs ++ zs)))
theorem mt_extendT : MtM X "list.extend" (rExtendT X.K) := by
  intro pins s σ H x vs v us Q I rx rv h
  obtain ⟨l, b, xs, zs, rfl, rfl, hH, hB, hz, q⟩ := h
  cases rx
  obtain ⟨u, rfl, ru⟩ := rv.one
  cases ru
  obtain ⟨z, its, n, r, hl, e⟩ := I.lstM hH
  obtain ⟨its2, r2, pl, z2⟩ := I.tuple hB
  obtain ⟨o2, e2, hc2, n2, hd2⟩ := pl
  have hl2 := r2.length
  have hsz : its.toArray.size + its2.toArray.size ≤ sizeLine := by rw [List.size_toArray, List.size_toArray]; omega
  have hlong : ¬ (!its.toArray.isEmpty && Builtin.List.listTooLong (its.toArray.size + its2.toArray.size)) = true := by
    rw [notLongL hsz, Bool.and_false]
    exact Bool.false_ne_true
  refine call_meets F.slot_list_extend ⟨_, e, rfl⟩ F.entry_list_extend (F.args_list_extend_2 _ _)
    (list_extend_tup l its.toArray n b o2 its2.toArray n2 hlong (by rw [List.size_toArray]; omega) (by omega)) ⟨e, e2, hc2, hd2, ?_⟩
  refine ⟨.non, _, I.lset (its' := its ++ its2) hH e (by simp) (r.append r2) ?_, rfl, q⟩
  rw [List.length_append]
  omega
end
/-! ### o.m(k = v, ..): keywords alone -/
def tMethK (C : Addr) (m : Str) (sp : Sp) (n : Nat) (gV : List V → List V) (E : XK) (ta : TE) (tk : TA) : TE := fun σ H Q => ta σ H fun x H1 => ∃ a dx fs, x = .ref a ∧ H1 a = some (.ins C dx fs) ∧ fs.lookup m = none ∧
  tk σ H1 fun zs H2 => zs.length = n ∧ sp (x :: gV zs) H2 Q E
structure KwB (fd : FuncData) (ps ks : List Str) (g : {α : Type} → List α → List α) : Prop where
  to : ∀ (s : Shared) (u : Value) (ws : List Value), ws.length = ks.length → BindsTo s fd ⟨[u], ks.zip ws⟩ (ps.zip (u :: g ws))
  rel : ∀ {zs : List V} {ws : List Value}, Vals zs ws → Vals (g zs) (g ws)
section
variable {X : Cx} {CX : CXT} {k : Nat} {f C : Addr} {fd : FuncData} {ps ks : List Str} {sp : Sp} {E : XK} {x m : Str} {p pos apos : Pos} {o : Expr} {kws : List Keyword} {ta : TE} {tk : TA} {g : {α : Type} → List α → List α}
theorem run_kw {pins : List (Addr × Obj)} {σ : St} {H : Hp} {s : Shared} {Q : VK} {u : Value} {ws : List Value} {v : V} {zs : List V} (F : FnOk X.prog X.w X.K X.mg X.base CX k f fd ps sp) (hr : Room k X.A) (hb : KwB fd ps ks g) (hx : Passes CX X E)
    (I : Inv X pins σ H s) (r : RelV v u) (rz : Vals zs ws) (hl : zs.length = ks.length) (h : sp (v :: g zs) H Q E) : wpAny (model X.prog X.w) X.A (call (.ref f) [u] (ks.zip ws)) (EP X pins σ Q) X.xe s := by
  have r2 : Vals (v :: g zs) (u :: g ws) := .cons r (hb.rel rz)
  refine wpAny_call (codeAny_mono (F.run X.A X.stack s H ⟨[u], ks.zip ws⟩ (u :: g ws) (v :: g zs) Q E hr I.env0 (hb.to s u ws (rz.length.symm.trans hl)) r2 h) fun r s' hq => ?_)
  cases r with
  | error e => exact hx pins σ H s e s' I hq
  | ok fl =>
    cases fl with
    | ret u => exact I.after hq
    | next => exact False.elim hq
    | brk => exact False.elim hq
    | cont => exact False.elim hq
theorem pe_methK {pl : Sem Bool} (he : PE X o ta) (c : Cls X.K C) (hm : Meth X.K C m f) (F : FnOk X.prog X.w X.K X.mg X.base CX k f fd ps sp) (hr : Room k X.A) (hb : KwB fd ps ks g) (hx : Passes CX X E) (hkw : PK X kws tk)
    (ht : eval (.Call (.Attribute o m apos) [] kws pos) X.env = (do
      let ov ← eval o X.env
      standAt apos.atName
      let (f, first) ← holding [ov] (getMethod ov m pl)
      callWith pos f first (backTo pos (starEach [] X.env)) (backToKw pos (keywordEach kws X.env))) := by rfl)
    (hall : (backToKw pos (keywordEach kws X.env)).all (·.1.isSome) = true := by rfl) (hks : (backToKw pos (keywordEach kws X.env)).filterMap (·.1) = ks := by rfl)
    (hpl : ((backTo pos (starEach [] X.env)).any (·.1) || (backToKw pos (keywordEach kws X.env)).any (·.1.isNone)) = false := by rfl) :
    PE X (.Call (.Attribute o m apos) [] kws pos) (tMethK C m sp ks.length g E ta tk) := by
  refine ⟨fun pins s σ H Q I h => ?_⟩
  refine PySem.W.methodCall_KW (pl := pl) (thn (he.run pins s σ H _ I h) fun u s1 ⟨x, H1, I1, rx, a, dx, fs, ex, ea, l, q⟩ => ?_) ht
  subst ex
  obtain rfl : u = Value.ref a := rx
  refine getmeth_ok I1 ea c hm l ?_
  refine PySem.W.callWith_KW0 (first := [.ref a]) (h₀ := X.base) I.ok.mod.kin hm.kp hall ?_ hpl
  refine thn (hkw.run pos pins s1 σ H1 _ I1 q) fun ws s2 ⟨zs, H2, I2, rz, hl, q2⟩ => ⟨I2.kIn, ?_⟩
  rw [hks]
  exact run_kw (v := .ref a) F hr hb hx I2 (show RelV (V.ref a) (Value.ref a) from rfl) rz hl q2
end
/-! ### try: .. except C as n: ..; except ..: .. where only the first clause is met -/
def wAs1 (K : PySem.W.Frag) (c : Value) (i : Nat) (ts : Addr → Value → Option Addr → TS) (D : Ends) : WX := fun cls d σ H =>
  PySem.W.exmOne K cls c = some true ∧ ∀ a, H a = none → ts a cls d { nx := fun σ' H' => D.nx (σ'.set i none) H', rt := D.rt, bk := fun σ' H' => D.bk (σ'.set i none) H', ct := fun σ' H' => D.ct (σ'.set i none) H' } (σ.set i (some (.ref a))) H
section
variable {X : Cx} {x n : Str} {c : Value} {i : Nat} {body suite : List Stmt} {b₀ : Stmt} {np pos pos' : Pos} {hds : List ExceptHandler} {tb : WX → TS} {ts : Addr → Value → Option Addr → TS}
theorem ps_try_as2 (hs : X.stack = X.env :: X.outer) (hf : X.env.frame = some X.env.locals) (hN : X.N.Nodup) (hi : X.N[i]? = some n) (hln : X.env.kindOf n = some .local) (hc : Names X x c)
    (hb : ∀ (W : WX) (pn : List (Addr × Obj)) (xe : Value → Shared → Prop), Takes (X.tr pn xe) W → PassesOwn (model X.prog X.w) X.A X.env xe → PSs (X.tr pn xe) body (tb W))
    (hsu : ∀ (a : Addr) (oe : Obj) (cls : Value) (d : Option Addr) (pn : List (Addr × Obj)), Zc cls d oe → (∃ vs, oe.data = .fields vs) → PSs (X.suite a ((a, oe) :: pn)) (b₀ :: suite) (ts a cls d)) :
    PS X (.Try body (.ExceptHandler (some (.Name x np)) (some n) (b₀ :: suite) pos' :: hds) [] [] pos) (fun D σ H => tb (wAs1 X.K c i ts D) D σ H) := by
  refine ⟨fun pins s σ H D I h => ?_⟩
  have ok := I.ok
  have hfr : X.A.frames = some (X.env :: X.outer) := by rw [ok.frames, hs]
  have hloc : Loc X.env.scope n := .inl hln
  refine wpAny_Try_except ?_
  refine wpAny_mono ((hb (wAs1 X.K c i ts D) (X.pn ++ pins) (fun e s₁ => wpAny (model X.prog X.w) X.A (noteFrame e X.env) (fun _ s₂ => wpAny (model X.prog X.w) X.A (setFlight e none) (fun _ s₃ =>
    wpAny (model X.prog X.w) X.A (handleBy e X.env (.ExceptHandler (some (.Name x np)) (some n) (b₀ :: suite) pos' :: hds)) (SP X pins D) X.xe s₃) X.xe s₂) X.xe s₁) (fun u s' xx => ?_) PassesOwn.looking).run [] s σ H D (I.toTry _) h) (fun f s1 hsp => ?_) (fun e s1 he => he)
  · obtain ⟨a, B, sI, pins', σ', H', cls, d, rfl, J', nb, up, sky, na, os, ag, hb1, hyes⟩ := xx
    have J : Inv X pins σ' H' sI := J'.ofTry ok
    have sky' : Sky B (X.env :: X.outer) a (Zc cls d) X.env.locals s'.heap := by rw [← hs]; exact sky
    show wpAny (model X.prog X.w) X.A (noteFrame (.ref a) X.env) _ _ _
    refine Sky.land Zc.steady hfr hf sky' fun h3 fl3 up3 => ?_
    have J3 : Inv X pins σ' H' { s' with heap := h3 } := J.landed nb fl3.1 (up.trans up3) os ag
    obtain ⟨oe3, vs3, he3, hz3, hd3⟩ := fl3.there
    have notFr : ∀ {h : Heap} {o : Obj} {vs : Array Value}, h.FunFrames B (X.env :: X.outer) → h.get? a = some o → o.data = .fields vs → a ∉ frs (X.env :: X.outer) := fun {h o vs} ff e dd hm => by
      obtain ⟨_, o', e', hnf⟩ := ff.mem hm
      rw [e] at e'; cases e'
      exact hnf _ dd
    have nfr := notFr fl3.2.2.1 he3 hd3
    have nL : a ≠ X.env.locals := fun z => nfr (List.mem_filterMap.mpr ⟨X.env, List.mem_cons_self, by rw [hf, z]⟩)
    have nF : a ∉ X.fs := fun hm => by
      obtain ⟨e, he, q⟩ := List.mem_filterMap.mp hm
      exact nfr (List.mem_filterMap.mpr ⟨e, List.mem_cons_of_mem _ he, q⟩)
    have S3 := J3.suite he3 hd3 na nL nF
    refine wpAny_handleBy_cons (codeAny_handlers_test ?_) (by intro q; cases q)
    have LT : PySem.W.Looks (model X.prog X.w) h3 (typeOf (.ref a)) cls := fun A Q E s k q => wpAny_typeOf_ref (k _ _ he3) (by rw [hz3.1]; exact q)
    have LM := PySem.W.exm_one (M := model X.prog X.w) (J3.kIn) LT hb1
    have test : ∀ {Q : Value → Shared → Prop} {E : Value → Shared → Prop}, Q c { s' with heap := h3 } → wpAny (model X.prog X.w) (X.A.mark (some (.ref a))) (eval (.Name x np) X.env) Q E { s' with heap := h3 } := fun {Q E} q => by
      obtain ⟨hg, hdbg, hm | ⟨hm, hv, hnn⟩⟩ := hc
      · exact ld_glob (X := X.suite a ((a, oe3) :: (X.pn ++ pins))) S3 hg hm q hdbg
      · exact ld_blt (X := X.suite a ((a, oe3) :: (X.pn ++ pins))) S3 hg hm hv q hnn hdbg
    refine test (LM.here ?_)
    refine codeAny_handlers_suite_as ?_
    refine HandSPX.lands_againZ fl3 fun h4 fl4 up4 => ?_
    have J4 : Inv X pins σ' H' { s' with heap := h4 } := J.landed nb fl4.1 ((up.trans up3).trans up4) os ag
    obtain ⟨oe4, vs4, he4, hz4, hd4⟩ := fl4.there
    have S4 := J4.suite he4 hd4 na nL nF
    refine store_ok (X := X.suite a ((a, oe4) :: (X.pn ++ pins))) (v := .ref a) S4 hN hi hloc rfl (fun s5 S5 => ?_) (.inr hln)
    refine wpAny_mono ((hsu a oe4 cls d (X.pn ++ pins) hz4 ⟨_, hd4⟩).run [] s5 _ H' _ S5 (hyes a na)) (fun f s6 hsp => ?_) (fun _ _ z => False.elim z)
    have end_ : ∀ {σ6 : St} {H6 : Hp} {Q : Shared → Prop}, Inv (X.suite a ((a, oe4) :: (X.pn ++ pins))) [] σ6 H6 s6 → (∀ s7, Inv X pins (σ6.set i none) H6 s7 → Q s7) →
        wpAny (model X.prog X.w) X.A (do bindName X.env n .none; unbindBehindTheSuite X.env n pos') (fun _ s7 => Q s7) X.xe s6 := fun {σ6 H6 Q} S6 hq => gone_ok (S6.unsuite ok) hN hi hln hq
    cases f with
    | next =>
      obtain ⟨σ6, H6, S6, q6⟩ := hsp
      exact end_ S6 fun s7 J7 => ⟨_, _, J7, q6⟩
    | brk =>
      obtain ⟨σ6, H6, S6, q6⟩ := hsp
      exact end_ S6 fun s7 J7 => ⟨_, _, J7, q6⟩
    | cont =>
      obtain ⟨σ6, H6, S6, q6⟩ := hsp
      exact end_ S6 fun s7 J7 => ⟨_, _, J7, q6⟩
    | ret u =>
      obtain ⟨v6, σ6, H6, S6, r6, q6⟩ := hsp
      exact end_ S6 fun s7 J7 => ⟨_, _, _, J7, r6, q6⟩
  · cases f with
    | next =>
      obtain ⟨σ', H', J', q⟩ := hsp
      exact wpAny_execs_nil ⟨σ', H', J'.ofTry ok, q⟩
    | brk =>
      obtain ⟨σ', H', J', q⟩ := hsp
      exact ⟨σ', H', J'.ofTry ok, q⟩
    | cont =>
      obtain ⟨σ', H', J', q⟩ := hsp
      exact ⟨σ', H', J'.ofTry ok, q⟩
    | ret u =>
      obtain ⟨v, σ', H', J', r, q⟩ := hsp
      exact ⟨v, σ', H', J'.ofTry ok, r, q⟩
end
end L2
set_option Elab.async false
set_option linter.all false
set_option maxRecDepth 100000
set_option maxHeartbeats 4000000
namespace K26
open PySem PySem.Spec PyProof.Rows L2
/-- the class NotUsable at U, its __init__ at fI -/
structure NUT (K : PySem.W.Frag) (mg : Str → Option Value) (U fI : Addr) : Prop where
  gU : mg "NotUsable" = some (.ref U)
  ox : OexC K U
  xf : XfC K U
  nw : PySem.W.findIn K (.ref U) "word" = some none
  na : PySem.W.findIn K (.ref U) "at" = some none
  iC : PySem.W.findIn K (.ref U) "__init__" = some (some (.ref fI))
  tI : PySem.W.typeIn K (.ref fI) = some (.type "function")
  te : PySem.W.exmOne K (.ref U) (.ref U) = some true
  fn : ∃ fd, Fun K "__init__" "NotUsable.__init__" s_NotUsable_init fI fd ∧ Binds K fd ["self", "word", "at"] []
section
variable {P : Program} {w : World} {K : PySem.W.Frag} {mg : Str → Option Value} {base : Heap} {U fI : Addr}
/-! ### NotUsable.__init__ -/
def hInit (U a dx : Addr) (z : Str) (i : Int) (H : Hp) : Hp := upd (upd (upd H dx (exd dx [("word", .str z)])) a (exo a U (some dx))) dx (exd dx [("at", .int i), ("word", .str z)])
def spNU (U : Addr) : Sp := fun vs H Q _ => ∃ (a : Addr) (z : Str) (i : Int), vs = [.ref a, .str z, .int i] ∧ H a = some (exo a U none) ∧ ∀ dx, H dx = none → dx ≠ a → Q .non (hInit U a dx z i H)
theorem ok_nu (T : NUT K mg U fI) : ∃ fd, FnOk P w K mg base CX0 1 fI fd ["self", "word", "at"] (spNU U) ∧ Binds K fd ["self", "word", "at"] [] := by
  obtain ⟨fd, F, b⟩ := T.fn
  refine ⟨fd, F.ok sc_NotUsable_init (fun vs H Q E h => ?_) (fun cdv A outer s H vs Q E hr h => ?_), b⟩
  · obtain ⟨a, z, i, rfl, _⟩ := h
    rfl
  obtain ⟨a, z, i, rfl, ha, q⟩ := h
  refine ⟨_, pss_cons (ps_ost (pv 0) (pv 1)) (pss_one (ps_ost (pv 0) (pv 2))), ?_⟩
  refine ⟨_, rfl, _, rfl, a, U, rfl, T.ox, T.nw, .inl ⟨ha, fun dx hdx hne => ?_⟩⟩
  refine ⟨_, rfl, _, rfl, a, U, rfl, T.ox, T.na, .inr ⟨dx, [("word", .str z)], upd_same, ?_, (by show 1 ≤ 900; decide), ?_⟩⟩
  · rw [upd_ne hne, upd_same]
  · exact q dx hdx hne
/-! ### is_integer, is_number, is_below -/
theorem ok_integer (D : DefAt K mg "is_integer" s_is_integer ["thing"]) (T : Txt K mg) : CalX P w K mg base CX0 1 "is_integer" ["thing"] (spInteger K) := by
  obtain ⟨f, fd, F, m, b⟩ := D.ex
  exact ⟨f, fd, ok_is_integer F T, m, F.kp, b, fun_lk F⟩
def numB : Option Int → Bool
  | some i => decide (0 ≤ i)
  | none => false
def spNumber (K : PySem.W.Frag) : Sp := fun vs H Q _ => ∃ x o, vs = [x] ∧ NumV K H x o ∧ Q (.bl (numB o)) H
theorem ok_number (D : DefAt K mg "is_number" s_is_number ["thing"]) (GI : CalX P w K mg base CX0 1 "is_integer" ["thing"] (spInteger K)) : CalX P w K mg base CX0 2 "is_number" ["thing"] (spNumber K) := by
  refine D.ok sc_is_number (fun vs H Q E h => ?_) (fun f cdv A outer s H vs Q E hr h => ?_)
  · obtain ⟨x, o, rfl, _⟩ := h
    rfl
  obtain ⟨x, o, rfl, hx, q⟩ := h
  refine ⟨_, pss_one (ps_ret (pe_and (pe_c0 GI hr (by decide) rfl (pa_cons (pv 0) pa_nil)) (pe_one (pe_cmpR op_ge (pv 0) pe_int (nomark _))))), ?_⟩
  refine ⟨_, rfl, x, o, rfl, hx, _, rfl, ?_⟩
  cases o with
  | none => exact iteF q
  | some i =>
    obtain rfl : x = .int i := hx
    exact iteT ⟨_, rfl, _, _, rfl, rfl, q⟩
def belowB (n : Int) : Option Int → Bool
  | some i => decide (0 ≤ i) && decide (i < n)
  | none => false
def spBelow (K : PySem.W.Frag) : Sp := fun vs H Q _ => ∃ (x : V) (o : Option Int) (n : Int), vs = [x, .int n] ∧ NumV K H x o ∧ Q (.bl (belowB n o)) H
theorem ok_below (D : DefAt K mg "is_below" s_is_below ["thing", "bound"]) (GN : CalX P w K mg base CX0 2 "is_number" ["thing"] (spNumber K)) : CalX P w K mg base CX0 3 "is_below" ["thing", "bound"] (spBelow K) := by
  refine D.ok sc_is_below (fun vs H Q E h => ?_) (fun f cdv A outer s H vs Q E hr h => ?_)
  · obtain ⟨x, o, n, rfl, _⟩ := h
    rfl
  obtain ⟨x, o, n, rfl, hx, q⟩ := h
  refine ⟨_, pss_one (ps_ret (pe_and (pe_c0 GN hr (by decide) rfl (pa_cons (pv 0) pa_nil)) (pe_one (pe_cmpR op_lt (pv 0) (pv 1) (nomark _))))), ?_⟩
  refine ⟨_, rfl, x, o, rfl, hx, _, rfl, ?_⟩
  cases o with
  | none => exact iteF q
  | some i =>
    obtain rfl : x = .int i := hx
    cases e : numB (some i) with
    | false =>
      refine iteF ?_
      have e2 : belowB n (some i) = false := by
        show (decide (0 ≤ i) && decide (i < n)) = false
        rw [show decide (0 ≤ i) = false from e, Bool.false_and]
      rw [e2] at q
      exact q
    | true =>
      refine iteT ⟨_, rfl, _, rfl, _, _, rfl, rfl, ?_⟩
      have e2 : belowB n (some i) = decide (i < n) := by
        show (decide (0 ≤ i) && decide (i < n)) = decide (i < n)
        rw [show decide (0 ≤ i) = true from e, Bool.true_and]
      rw [e2] at q
      exact q
/-! ### need -/
/-- the dict of the error -/
def xdO (z : Str) (i : Int) : HO := .xd [("at", .int i), ("word", .str z)]
def spNeed (U : Addr) : Sp := fun vs H Q E => ∃ (b : Bool) (z : Str), vs = [.bl b, .str z] ∧ (b = true → Q .non H) ∧ (b = false → ∀ d, H d = none → E (.ref U) (some d) (upd H d (xdO z (-1))))
theorem ok_need (D : DefAt K mg "need" s_need ["fits", "word"]) (T : NUT K mg U fI) : CalX P w K mg base (L2.CX P w) 3 "need" ["fits", "word"] (spNeed U) := by
  refine D.okX sc_need (fun vs H Q E h => ?_) (fun f cdv A outer s H vs Q E hr h => ?_)
  · obtain ⟨b, z, rfl, _⟩ := h
    rfl
  obtain ⟨b, z, rfl, q1, q2⟩ := h
  obtain ⟨fdI, FI, bI⟩ := ok_nu (P := P) (w := w) (base := base) T
  refine ⟨_, pss_one (ps_if (pt_not (pt_val (pv 0))) (pss_one (ps_raise rfl (takes_of rfl rfl rfl rfl) (pmk_oex T.ox T.iC T.tI FI hr bI .nil pass0 rfl T.gU (pa_cons (pv 1) (pa_cons (pe_un un_neg pe_int) pa_nil))))) pss_nil), ?_⟩
  refine ⟨_, rfl, b, rfl, ?_⟩
  cases b with
  | true => exact iteF (q1 rfl)
  | false =>
    refine iteT ?_
    refine ⟨_, rfl, 1, rfl, (by show 2 ≤ 1000; decide), fun a ha => ?_⟩
    refine ⟨a, z, -1, rfl, upd_same, fun dx hdx hne => ⟨rfl, dx, [("at", .int (-1)), ("word", .str z)], ?_, upd_same, ?_, ?_⟩⟩
    · show hInit U a dx z (-1) (upd H a (exo a U none)) a = _
      unfold hInit
      rw [upd_ne (Ne.symm hne), upd_same]
    · rw [upd_ne hne] at hdx
      exact hdx
    · have e : upd (del (hInit U a dx z (-1) (upd H a (exo a U none))) a) dx (.xd [("at", .int (-1)), ("word", .str z)]) = upd H dx (xdO z (-1)) := by
        funext y
        unfold hInit xdO
        by_cases h1 : y = dx
        · rw [h1, upd_same, upd_same]
        · rw [upd_ne h1, upd_ne h1]
          by_cases h2 : y = a
          · rw [h2, del_same, ha]
          · rw [del_ne h2, upd_ne h1, upd_ne h2, upd_ne h1, upd_ne h2]
      rw [e]
      rw [upd_ne hne] at hdx
      exact q2 rfl dx hdx
end
end K26
set_option Elab.async false
set_option linter.all false
set_option maxRecDepth 100000
set_option maxHeartbeats 4000000
namespace K26
open PySem PySem.Spec PyProof.Rows L2
/-! ### shapes: a tuple is the list of its children -/
/-- o: no (further) child; c k r: the child k, then those of r; x: a value that is no tuple -/
inductive Dt | x | o | c (k r : Dt)
namespace Dt
def len : Dt → Nat | c _ r => r.len + 1 | _ => 0
def size : Dt → Nat | c k r => k.size + r.size + 1 | _ => 1
def isx : Dt → Bool | x => true | _ => false
/-- the children as a list -/
def kids : Dt → List Dt | c k r => k :: r.kids | _ => []
/-- all is well at this node -/
def here (least : Nat) (t : Dt) : Bool := !t.isx && decide (t.len ≤ 6) && !(decide (0 < t.len) && decide (t.len < least))
/-- all is well at all nodes of the children -/
def deep (least : Nat) : Dt → Bool | c k r => here least k && deep least k && deep least r | _ => true
def good (least : Nat) (t : Dt) : Bool := here least t && deep least t
theorem kids_len : ∀ t : Dt, t.kids.length = t.len | x => rfl | o => rfl | c _ r => congrArg (· + 1) (kids_len r)
theorem kids_good (l : Nat) : ∀ t : Dt, deep l t = t.kids.all (good l)
  | x => rfl
  | o => rfl
  | c k r => by
    show (here l k && deep l k && deep l r) = ((here l k && deep l k) && r.kids.all (good l))
    rw [kids_good l r]
theorem size_pos : ∀ t : Dt, 1 ≤ t.size | x => Nat.le_refl 1 | o => Nat.le_refl 1 | c _ _ => Nat.le_add_left 1 _
def sizes (l : List Dt) : Nat := (l.map size).sum
theorem sizes_kids : ∀ t : Dt, sizes t.kids + 1 ≤ t.size + t.len
  | x => Nat.le_refl 1
  | o => Nat.le_refl 1
  | c k r => by
    have q := sizes_kids r
    show (k.size + sizes r.kids) + 1 ≤ k.size + r.size + 1 + (r.len + 1)
    omega
end Dt
/-- the values of a row -/
inductive DtF (K : PySem.W.Frag) (H : Hp) : List V → Dt → Prop
  | nil : DtF K H [] .o
  | bad {v : V} {ws : List V} {r : Dt} {t : String} (h : KindV K H v t) (n : t ≠ "tuple") (q : DtF K H ws r) : DtF K H (v :: ws) (.c .x r)
  | tup {a : Addr} {vs ws : List V} {k r : Dt} (h : SqT K H a vs) (p : DtF K H vs k) (q : DtF K H ws r) : DtF K H (.ref a :: ws) (.c k r)
/-- one value -/
def DtV (K : PySem.W.Frag) (H : Hp) (v : V) (t : Dt) : Prop := (t = .x ∧ ∃ s, KindV K H v s ∧ s ≠ "tuple") ∨ ∃ a vs, v = .ref a ∧ SqT K H a vs ∧ DtF K H vs t
theorem tyx_tup {K : PySem.W.Frag} {H : Hp} {a : Addr} {xs : List V} (h : SqT K H a xs) : TyX K H (.ref a) (.type "tuple") := by
  rcases h with (h | ⟨o, h⟩) | ⟨o, its, n, h1, h2, _⟩
  · exact .base (.tup h)
  · exact .fTuple h
  · exact .kTuple h1 h2
theorem kind_sqt {K : PySem.W.Frag} {H : Hp} {a : Addr} {xs : List V} (h : SqT K H a xs) : KindV K H (.ref a) "tuple" := ⟨tyx_tup h, by simp⟩
theorem DtF.no_x {K : PySem.W.Frag} {H : Hp} {vs : List V} {t : Dt} (h : DtF K H vs t) : t.isx = false := by
  cases h <;> rfl
theorem DtF.len {K : PySem.W.Frag} {H : Hp} : ∀ {vs : List V} {t : Dt}, DtF K H vs t → vs.length = t.len
  | _, _, .nil => rfl
  | _, _, .bad _ _ q => congrArg (· + 1) q.len
  | _, _, .tup _ _ q => congrArg (· + 1) q.len
theorem DtF.kids {K : PySem.W.Frag} {H : Hp} : ∀ {vs : List V} {t : Dt}, DtF K H vs t → Paired (DtV K H) vs t.kids
  | _, _, .nil => .nil
  | _, _, .bad h n q => .cons (.inl ⟨rfl, _, h, n⟩) q.kids
  | _, _, .tup h p q => .cons (.inr ⟨_, _, rfl, h, p⟩) q.kids
theorem same_sqt {K : PySem.W.Frag} {H H' : Hp} {a : Addr} {xs : List V} (e : Same H H') (h : SqT K H a xs) : SqT K H' a xs := by
  rcases h with (h | ⟨o, h⟩) | h
  · exact .inl (.inl (e _ _ h))
  · exact .inl (.inr ⟨o, e _ _ h⟩)
  · exact .inr h
theorem same_kind {K : PySem.W.Frag} {H H' : Hp} {v : V} {t : String} (e : Same H H') (h : KindV K H v t) : KindV K H' v t := by
  obtain ⟨h, z⟩ := h
  refine ⟨?_, z⟩
  cases h with
  | base h =>
    cases h with
    | non => exact .base .non
    | bl b => exact .base (.bl b)
    | int i => exact .base (.int i)
    | str s => exact .base (.str s)
    | flt s => exact .base (.flt s)
    | lst h => exact .base (.lst (e _ _ h))
    | frz h => exact .base (.frz (e _ _ h))
    | tup h => exact .base (.tup (e _ _ h))
    | dK h => exact .base (.dK (e _ _ h))
    | dT h => exact .base (.dT (e _ _ h))
  | byt b => exact .byt b
  | set h => exact .set (e _ _ h)
  | kList a b => exact .kList a b
  | kTuple a b => exact .kTuple a b
  | kDict a b => exact .kDict a b
  | fTuple h => exact .fTuple (e _ _ h)
  | fDict h => exact .fDict (e _ _ h)
theorem same_dtf {K : PySem.W.Frag} {H H' : Hp} (e : Same H H') : ∀ {vs : List V} {t : Dt}, DtF K H vs t → DtF K H' vs t
  | _, _, .nil => .nil
  | _, _, .bad h n q => .bad (same_kind e h) n (same_dtf e q)
  | _, _, .tup h p q => .tup (same_sqt e h) (same_dtf e p) (same_dtf e q)
theorem same_dtv {K : PySem.W.Frag} {H H' : Hp} {v : V} {t : Dt} (e : Same H H') (h : DtV K H v t) : DtV K H' v t := by
  rcases h with ⟨a, s, b, c⟩ | ⟨a, vs, b, c, d⟩
  · exact .inl ⟨a, s, same_kind e b, c⟩
  · exact .inr ⟨a, vs, b, same_sqt e c, same_dtf e d⟩
theorem Paired.mono {α β : Type} {F G : α → β → Prop} (h : ∀ a b, F a b → G a b) : ∀ {l₁ : List α} {l₂ : List β}, Paired F l₁ l₂ → Paired G l₁ l₂
  | _, _, .nil => .nil
  | _, _, .cons r t => .cons (h _ _ r) (Paired.mono h t)
theorem Paired.app {α β : Type} {F : α → β → Prop} : ∀ {l₁ m₁ : List α} {l₂ m₂ : List β}, Paired F l₁ l₂ → Paired F m₁ m₂ → Paired F (l₁ ++ m₁) (l₂ ++ m₂)
  | _, _, _, _, .nil, s => s
  | _, _, _, _, .cons r t, s => .cons r (Paired.app t s)
theorem Paired.len {α β : Type} {F : α → β → Prop} : ∀ {l₁ : List α} {l₂ : List β}, Paired F l₁ l₂ → l₁.length = l₂.length
  | _, _, .nil => rfl
  | _, _, .cons _ t => congrArg (· + 1) (Paired.len t)
/-- the last pair -/
theorem Paired.last {α β : Type} {F : α → β → Prop} {l₁ : List α} {l₂ : List β} (h : Paired F l₁ l₂) (n : l₁ ≠ []) : ∃ a b l m, l₁ = l ++ [a] ∧ l₂ = m ++ [b] ∧ F a b ∧ Paired F l m := by
  induction h with
  | nil => exact absurd rfl n
  | @cons a b l m r t ih =>
    cases t with
    | nil => exact ⟨a, b, [], [], rfl, rfl, r, .nil⟩
    | @cons a' b' l' m' r' t' =>
      obtain ⟨x, y, p, q, e1, e2, f, g⟩ := ih (by simp)
      exact ⟨x, y, a :: p, b :: q, by rw [e1] <;> rfl, by rw [e2] <;> rfl, f, .cons r g⟩
section
variable {P : Program} {w : World} {K : PySem.W.Frag} {mg : Str → Option Value} {base : Heap}
theorem same_new {H : Hp} {p : Addr} {o : HO} (h : H p = none) : Same H (upd H p o) := fun b u q => by rw [upd_ne (ne_of_none q h)]; exact q
/-- a new object changes -/
theorem same_mut {H H' : Hp} {p : Addr} {o : HO} (e : Same H H') (h : H p = none) : Same H (upd H' p o) := fun a u ha => by
  rw [upd_ne (ne_of_none ha h)]
  exact e a u ha
/-! ### has_forks_of -/
def spForks (K : PySem.W.Frag) : Sp := fun vs H Q _ => ∃ (v : V) (t : Dt) (least : Nat), vs = [v, .int least] ∧ DtV K H v t ∧ t.size ≤ 100000 ∧ ∀ H', Same H H' → Q (.bl (t.good least)) H'
theorem ok_forks (D : DefAt K mg "has_forks_of" s_has_forks_of ["thing", "least"]) (T : Txt K mg) (mk : ∃ t, mg "MOST_CHILDREN" = some (.int 6 t)) : CalX P w K mg base CX0 1 "has_forks_of" ["thing", "least"] (spForks K) := by
  obtain ⟨tk, mk⟩ := mk
  refine D.ok sc_has_forks_of (fun vs H Q E h => ?_) (fun f cdv A outer s H vs Q E hr h => ?_)
  · obtain ⟨v, t, l, rfl, _⟩ := h
    rfl
  obtain ⟨v, t, least, rfl, hv, hs, q⟩ := h
  refine ⟨_, pss_cons (ps_set (i := 2) sc_has_forks_of.nd rfl (.inl rfl) (pe_lst (pa_cons (pv 0) pa_nil)))
    (pss_cons (ps_while PassesOwn.never (pt_truth (pv 2) (by intro _; rfl))
      (pss_cons (ps_set (i := 3) sc_has_forks_of.nd rfl (.inl rfl) (pe_bm0 PySem.F.plainAttrs_list PySem.F.slot_list_pop PySem.F.type_list_pop mt_pop (pv 2)))
      (pss_cons (ps_if (PW.pt (pw_or (pt_not (pt_val (pe_callB call_isi (by rfl) T.isinstance boot_isinstance (pa_cons (pv 3) (pa_cons (pe_bltn (v := .ty "tuple") (by rfl) T.tuple PyProof.Rows.boot_tuple rfl) pa_nil)))))
          (pw_or1 (pt_cmpR op_gt (pe_callB call_len_seq (by rfl) T.len PySem.boot_len (pa_cons (pv 3) pa_nil)) (pe_glob (v := .int 6) (by rfl) mk ⟨_, rfl⟩) (nomark _))))) (pss_one (ps_ret pe_bl)) pss_nil)
      (pss_cons (ps_if (pt_chain op_lt op_lt pe_int (pe_callB call_len_seq (by rfl) T.len PySem.boot_len (pa_cons (pv 3) pa_nil)) (pv 1)) (pss_one (ps_ret pe_bl)) pss_nil)
      (pss_one (ps_expr (pe_bm PySem.F.plainAttrs_list PySem.F.slot_list_extend PySem.F.type_list_extend mt_extendT (pv 2) (pa_cons (pv 3) pa_nil))))))))
    (pss_one (ps_ret pe_bl))), ?_⟩
  refine ⟨_, rfl, (by show 1 ≤ sizeLine; decide), fun l hl => ?_⟩
  refine ⟨fun m σ H' => ∃ (xs : List V) (ds : List Dt) (pv : Option V), σ = [some v, some (.int least), some (.ref l), pv] ∧ Same H H' ∧ H' l = some (.lst xs) ∧ Paired (DtV K H) xs ds ∧ m = Dt.sizes ds ∧ Dt.sizes ds ≤ 100000 ∧ t.good least = ds.all (Dt.good least),
    ⟨Dt.sizes [t], [v], [t], none, rfl, same_new hl, upd_same, .cons hv .nil, rfl, (by show t.size + 0 ≤ 100000; omega), by simp⟩, fun m σ H' hW => ?_⟩
  obtain ⟨xs, ds, pv, rfl, sm, hL, hp, rfl, hz, hg⟩ := hW
  have hlen := Paired.len hp
  refine ⟨_, rfl, !xs.isEmpty, .inl ⟨xs, .inl (.inl hL), rfl⟩, ?_⟩
  cases xs with
  | nil =>
    cases hp
    refine iteF ?_
    rw [show t.good least = true from hg] at q
    exact q H' sm
  | cons x0 xr =>
    refine iteT ?_
    obtain ⟨a, b, l1, m1, e1, e2, hab, hlm⟩ := Paired.last hp (by simp)
    rw [e1] at hL hlen
    rw [e2] at hz hg hlen ⊢
    have es : Dt.sizes (m1 ++ [b]) = Dt.sizes m1 + b.size := by simp [Dt.sizes]
    have eg : (m1 ++ [b]).all (Dt.good least) = (m1.all (Dt.good least) && Dt.good least b) := by simp
    refine ⟨_, fun _ _ z => z, ?_⟩
    -- part = left.pop()
    refine ⟨_, rfl, .inl ⟨rfl, _, .inl (.inl hL)⟩, l, _, a, rfl, rfl, hL, by simp, ?_⟩
    rw [List.dropLast_concat]
    have sm1 : Same H (upd H' l (.lst l1)) := same_mut sm hl
    have bad : Dt.here least b = false → t.good least = false := fun z => by
      rw [hg, eg]
      unfold Dt.good
      rw [z]
      simp
    rcases hab with ⟨rfl, s', hk, hn⟩ | ⟨ad, vs', rfl, hS, hF⟩
    · -- no tuple
      have hk' := same_kind sm1 hk
      have e3 : (s' == "tuple") = false := by simpa using hn
      refine isi_read rfl hk'.1 (kit_tup hk'.2) ⟨_, rfl, ?_⟩
      rw [e3]
      refine iteT (iteT ?_)
      rw [bad rfl] at q
      exact q _ sm1
    · have hS' := same_sqt sm1 hS
      refine isi_read rfl (tyx_tup hS') (kit_tup (t := "tuple") (by simp)) ⟨_, rfl, ?_⟩
      refine iteF ?_
      have lk := hF.len
      refine ⟨_, rfl, ad, vs', rfl, .inr hS', _, _, rfl, rfl, _, rfl, ?_⟩
      refine ite2 (fun c => ?_) (fun c => ?_)
      · have c' : (6 : Int) < (vs'.length : Int) := of_decide_eq_true c
        rw [bad ?_] at q
        · exact q _ sm1
        · unfold Dt.here
          rw [show decide (b.len ≤ 6) = false from decide_eq_false (by omega)]
          simp
      · have c' : ¬ (6 : Int) < (vs'.length : Int) := fun z => c (decide_eq_true z)
        have h6 : decide (b.len ≤ 6) = true := decide_eq_true (by omega)
        have nx : b.isx = false := hF.no_x
        have skids : ∀ b' : Dt, Dt.sizes b'.kids < b'.size := fun b' => by
          induction b' with
          | x => exact Nat.lt_succ_self 0
          | o => exact Nat.lt_succ_self 0
          | c k r _ ih =>
            show k.size + Dt.sizes r.kids < k.size + r.size + 1
            omega
        have sk := skids b
        have ek : Dt.sizes (m1 ++ b.kids) = Dt.sizes m1 + Dt.sizes b.kids := by simp [Dt.sizes]
        have hlm' := Paired.len hlm
        have lsz : ∀ ds : List Dt, ds.length ≤ Dt.sizes ds := fun ds => by
          induction ds with
          | nil => exact Nat.le_refl 0
          | cons d ds ih =>
            have := d.size_pos
            show ds.length + 1 ≤ d.size + Dt.sizes ds
            omega
        have l1z := lsz m1
        have l2z := lsz b.kids
        have lk2 := b.kids_len
        have g2 : Dt.here least b = true → t.good least = (m1 ++ b.kids).all (Dt.good least) := fun z => by
          rw [hg, eg]
          unfold Dt.good
          rw [z, List.all_append, Dt.kids_good]
          rfl
        have sz : l1.length + vs'.length ≤ sizeLine := by
          rw [sizeLine_eq]
          omega
        refine ⟨_, rfl, ad, vs', rfl, .inr hS', _, _, rfl, rfl, _, rfl, ?_⟩
        refine ite2 (fun c1 => ?_) (fun c1 => ?_)
        · have c1' : (0 : Int) < (vs'.length : Int) := of_decide_eq_true c1
          refine ⟨_, rfl, _, _, rfl, rfl, _, rfl, ?_⟩
          refine ite2 (fun c2 => ?_) (fun c2 => ?_)
          · have c2' : (vs'.length : Int) < (least : Int) := of_decide_eq_true c2
            rw [bad ?_] at q
            · exact q _ sm1
            · unfold Dt.here
              rw [decide_eq_true (show 0 < b.len by omega), decide_eq_true (show b.len < least by omega)]
              simp
          · have c2' : ¬ (vs'.length : Int) < (least : Int) := fun z => c2 (decide_eq_true z)
            have hh : Dt.here least b = true := by
              unfold Dt.here
              rw [nx, h6, decide_eq_false (show ¬ b.len < least by omega)]
              simp
            refine ⟨_, rfl, .inl ⟨rfl, _, .inl (.inl upd_same)⟩, _, rfl, l, ad, l1, vs', rfl, rfl, upd_same, hS', sz, ?_⟩
            refine ⟨_, by omega, l1 ++ vs', m1 ++ b.kids, _, rfl, same_mut sm1 hl, upd_same, Paired.app hlm hF.kids, rfl, by omega, g2 hh⟩
        · have c1' : ¬ (0 : Int) < (vs'.length : Int) := fun z => c1 (decide_eq_true z)
          refine ⟨_, rfl, ?_⟩
          refine iteF ?_
          have hh : Dt.here least b = true := by
            unfold Dt.here
            rw [nx, h6, decide_eq_false (show ¬ 0 < b.len by omega)]
            simp
          refine ⟨_, rfl, .inl ⟨rfl, _, .inl (.inl upd_same)⟩, _, rfl, l, ad, l1, vs', rfl, rfl, upd_same, hS', sz, ?_⟩
          refine ⟨_, by omega, l1 ++ vs', m1 ++ b.kids, _, rfl, same_mut sm1 hl, upd_same, Paired.app hlm hF.kids, rfl, by omega, g2 hh⟩
/-! ### is_shape, need_shape -/
def spIsShape (K : PySem.W.Frag) : Sp := fun vs H Q _ => ∃ (v : V) (t : Dt), vs = [v] ∧ DtV K H v t ∧ t.size ≤ 100000 ∧ ∀ H', Same H H' → Q (.bl (t.good 1)) H'
theorem ok_isShape (D : DefAt K mg "is_shape" s_is_shape ["thing"]) (G : CalX P w K mg base CX0 1 "has_forks_of" ["thing", "least"] (spForks K)) : CalX P w K mg base CX0 2 "is_shape" ["thing"] (spIsShape K) := by
  refine D.ok sc_is_shape (fun vs H Q E h => ?_) (fun f cdv A outer s H vs Q E hr h => ?_)
  · obtain ⟨v, t, rfl, _⟩ := h
    rfl
  obtain ⟨v, t, rfl, hv, hz, q⟩ := h
  refine ⟨_, pss_one (ps_ret (pe_c0 G hr (by decide) rfl (pa_cons (pv 0) (pa_cons pe_int pa_nil)))), ?_⟩
  exact ⟨_, rfl, v, t, 1, rfl, hv, hz, q⟩
def spNeedShape (K : PySem.W.Frag) (U : Addr) : Sp := fun vs H Q E => ∃ (v : V) (t : Dt) (z : Str), vs = [v, .str z] ∧ DtV K H v t ∧ t.size ≤ 100000 ∧
  (t.good 1 = true → ∀ H', Same H H' → Q .non H') ∧ (t.good 1 = false → ∀ H' d, Same H H' → H' d = none → E (.ref U) (some d) (upd H' d (xdO z (-1))))
theorem ok_needShape {U : Addr} (D : DefAt K mg "need_shape" s_need_shape ["form", "word"]) (G : CalX P w K mg base CX0 2 "is_shape" ["thing"] (spIsShape K)) (GN : CalX P w K mg base (L2.CX P w) 3 "need" ["fits", "word"] (spNeed U)) :
    CalX P w K mg base (L2.CX P w) 4 "need_shape" ["form", "word"] (spNeedShape K U) := by
  refine D.okX sc_need_shape (fun vs H Q E h => ?_) (fun f cdv A outer s H vs Q E hr h => ?_)
  · obtain ⟨v, t, z, rfl, _⟩ := h
    rfl
  obtain ⟨v, t, z, rfl, hv, hz, q1, q2⟩ := h
  refine ⟨_, pss_one (ps_expr (pe_cx GN hr (by decide) rfl (passes_call (takes_of rfl rfl rfl rfl) (fun _ _ _ _ h => h)) (pa_cons (pe_c0 G hr (by decide) rfl (pa_cons (pv 0) pa_nil)) (pa_cons (pv 1) pa_nil)))), ?_⟩
  refine ⟨_, rfl, v, t, rfl, hv, hz, fun H' sm => ?_⟩
  exact ⟨_, rfl, _, z, rfl, fun e => q1 e H' sm, fun e d hd => q2 e H' d sm hd⟩
end
end K26
set_option Elab.async false
set_option linter.all false
set_option maxRecDepth 100000
set_option maxHeartbeats 4000000
namespace PySem
open Sem (wp)
open AutoSeq1 (wpAny_loadPart')
theorem meets_enumerate_newT (l : Addr) (ob : Obj) (items : Array Value) (n : Nat) (hc : ob.cls = .type "tuple") (hd : ob.data = .seq items n) :
    Meets (Builtin.«enumerate.__new__» ⟨[.type "enumerate", .ref l], []⟩) (fun _ R s => s.heap.get? l = some ob ∧
      R (.ok (.ret (.ref (s.heap.push { cls := .type "tuple_iterator", data := .fields #[.ref l, .int 0 0] }).objs.size)))
        { s with heap := (s.heap.push { cls := .type "tuple_iterator", data := .fields #[.ref l, .int 0 0] }).push { cls := .type "enumerate", data := .fields #[.none, .bool false, .ref s.heap.objs.size, rawInt 0, .none, .none] } }) :=
  .of_wp fun prog w A R s h => by
    obtain ⟨hp, g, d, tk, os⟩ := s; obtain ⟨hl, h⟩ := h
    have hsub := sub_enumerate
    have hL : Heap.IsTuple (Shared.heap ⟨hp, g, d, tk, os⟩) l items := ⟨_, hl, hc, n, hd⟩
    wp_walk using wpAny_loadPart' hl
    refine wpAny_stack_any fun st => wpAny_pure ?_
    split
    · rename_i c _ _ _ _ _
      cases (c == Value.type "enumerate")
      · wp_walk using wpAny_loadPart' hl, wpAny_pyIter_tuple hL
        exact ⟨_, rfl, h⟩
      · wp_walk using wpAny_loadPart' hl, wpAny_pyIter_tuple hL
        exact ⟨_, rfl, h⟩
    · wp_walk using wpAny_loadPart' hl, wpAny_pyIter_tuple hL
      exact ⟨_, rfl, h⟩
section
variable {prog : Program} {w : World} {A : Around} {E : Value → Shared → Prop} {s : Shared}
theorem call_enumerate_tup {l : Addr} {items : Array Value} {Q : Value → Shared → Prop} (hL : s.heap.IsTuple l items)
    (h : ∀ h', IsEnum h' (s.heap.objs.size + 1) s.heap.objs.size 0 .none → h'.IsTupleIter s.heap.objs.size l 0 → h'.objs.size = s.heap.objs.size + 2 →
      (∀ b o, s.heap.get? b = some o → h'.get? b = some o) → Q (.ref (s.heap.objs.size + 1)) { s with heap := h' }) :
    wpAny (model prog w) A (call (.type "enumerate") [.ref l]) Q E s := by
  obtain ⟨ob, hl, hc, n, hd⟩ := hL
  refine callType_new F.called_enumerate (by decide) (F.typeCall_enumerate_1 _) (F.newCall_enumerate_1 _) (fun obj => F.args_object_init_2 obj _) F.entry_enumerate_new
    (meets_enumerate_newT l ob items n hc hd) ⟨hl, ?_⟩
  have hz : (s.heap.push { cls := .type "tuple_iterator", data := .fields #[.ref l, .int 0 0] }).objs.size = s.heap.objs.size + 1 := Heap.size_push ..
  show _ ∧ _
  rw [hz]
  have he : IsEnum ((s.heap.push { cls := .type "tuple_iterator", data := .fields #[.ref l, .int 0 0] }).push
      { cls := .type "enumerate", data := .fields #[.none, .bool false, .ref s.heap.objs.size, rawInt 0, .none, .none] }) (s.heap.objs.size + 1) s.heap.objs.size 0 .none := by
    have := Heap.get?_push_size (s.heap.push { cls := .type "tuple_iterator", data := .fields #[.ref l, .int 0 0] })
      (o := { cls := .type "enumerate", data := .fields #[.none, .bool false, .ref s.heap.objs.size, rawInt 0, .none, .none] }) rfl
    rw [hz] at this; exact this
  refine ⟨⟨_, he, rfl⟩, h _ he ⟨_, Heap.get?_push_of_some _ (Heap.get?_push_size _ rfl), rfl, rfl⟩ (by rw [Heap.size_push, hz]) fun b o x => Heap.get?_push_of_some _ (Heap.get?_push_of_some _ x)⟩
end
end PySem
namespace L2
open PySem PySem.Spec PyProof.Rows
/-! ### enumerate(tuple) -/
def Itet (K : PySem.W.Frag) (a : Addr) : It :=
  ⟨fun i H => ∃ (xs : List V) (x : V), SqT K H a xs ∧ xs[i]? = some x, fun i H v H' => ∃ T x, v = .ref T ∧ H T = none ∧ H' = upd H T (.tup [.int (i : Nat), x]) ∧ ∀ xs, SqT K H a xs → xs[i]? = some x, fun i H => ∃ xs : List V, SqT K H a xs ∧ xs.length ≤ i⟩
theorem turn_enumT {P : Program} {w : World} {K : PySem.W.Frag} {elts : List Expr} {kk : Nat} {tpos : Pos} (a e it : Addr) :
    Turn P w K (.Tuple elts kk tpos) (Itet K a) [e, it] e (fun i h => (∃ old, IsEnum h e it ((i : Nat) : Int) old) ∧ h.IsTupleIter it a i ∧ e ≠ it ∧ a ≠ e ∧ a ≠ it) where
  mem := by simp
  obj := fun i h st b hb => by
    obtain ⟨⟨old, he⟩, ⟨o, ho, hc, hd⟩, _⟩ := st
    have e' : b = e ∨ b = it := by simpa using hb
    rcases e' with z | z
    · rw [z]; exact ⟨_, he, fun v q => nomatch q⟩
    · rw [z]; exact ⟨o, ho, fun v q => by rw [hd] at q; cases q⟩
  keep := fun i h h' st k => let ⟨⟨old, he⟩, hi, hne⟩ := st; ⟨⟨old, k e (by simp) _ he⟩, hi.at fun o q => k it (by simp) o q, hne⟩
  item := by
    intro X hP hw hK hc i pins s σ H E I hf st hg
    subst hP hw hK
    obtain ⟨⟨old, he⟩, hit, hne, hae, hai⟩ := st
    obtain ⟨xs, x, hq, hx⟩ := hg
    obtain ⟨its, rv, p, hz⟩ := I.tuple hq
    obtain ⟨u, hu, ru⟩ := rv.get hx
    have hel : e < s.heap.objs.size := Heap.lt_size he
    have hil : it < s.heap.objs.size := by obtain ⟨_, q, _⟩ := hit; exact Heap.lt_size q
    have hi : i < its.toArray.size := by
      rw [List.size_toArray]
      exact (List.getElem?_eq_some_iff.mp hu).1
    have D := Draws.tuple (prog := X.prog) (w := X.w) (A := X.A.in1) (I.ok.hd hc) it a hai its.toArray
    refine wpAny_pyNext_enum_itemD D he ⟨hit, p⟩ hi hne (by simp [Ne.symm hae, hne]) fun x' h' tk' hP ho hit' hT hsz hk => ?_
    refine ⟨_, rfl, wpAny_letOwnedTupleGo_enum (s := { s with heap := h', toks := tk' + 1 }) ho fun h'' he' sb => ?_⟩
    have eu : x' = u := by
      have e1 : its.toArray[i]? = some x' := hP
      have e2 : its.toArray[i]? = some u := by simpa using hu
      exact Option.some.inj (e1.symm.trans e2)
    subst eu
    have hT2 : h''.get? s.heap.objs.size = some { cls := .type "tuple", data := .seq #[.int i tk', x'] } := (sb.2 _ (Nat.ne_of_gt hel)).trans hT
    have new : ObjOk X.prog X.w (upd H s.heap.objs.size (.tup [.int (i : Nat), x])) h'' s.heap.objs.size (.tup [.int (i : Nat), x]) :=
      ⟨by show 2 ≤ sizeLine; decide, [.int i tk', x'], .cons ⟨_, rfl⟩ (.cons ru .nil), ⟨_, hT2, rfl, _, rfl⟩⟩
    have I1 : Inv X pins σ (upd H s.heap.objs.size (.tup [.int (i : Nat), x])) { s with heap := h'', toks := tk' + 1 } :=
      I.turnedNew (ch := [e, it]) (fun b ob hb q => (sb.2 b (fun z => hb (by simp [z]))).trans (hk b ob (fun z => hb (by simp [z])) (fun z => hb (by simp [z])) q)) hf (Nat.le_refl _) new
    refine ⟨.ref s.heap.objs.size, _, I1, rfl, ⟨_, x, rfl, I.hok.fresh (Nat.le_refl _), rfl, fun ys hy => by rw [I.tuple_inj hy hq]; exact hx⟩, ⟨⟨x', ?_⟩, hit'.1.at fun o q => (sb.2 it (Ne.symm hne)).trans q, hne, hae, hai⟩, fun b hb => ?_⟩
    · have e1 : ((i + 1 : Nat) : Int) = (i : Int) + 1 := by omega
      rw [e1]; exact he'
    · have hb' : b < s.heap.objs.size := by
        have e' : b = e ∨ b = it := by simpa using hb
        rcases e' with z | z
        · rw [z]; exact hel
        · rw [z]; exact hil
      rw [upd_ne (Nat.ne_of_lt hb')]
      exact (hf b hb).1
  done := by
    intro X hP hw hK hc i pins s σ H E I hf st hg
    subst hP hw hK
    obtain ⟨⟨old, he⟩, hit, hne, hae, hai⟩ := st
    obtain ⟨xs, hq, hx⟩ := hg
    obtain ⟨its, rv, p, hz⟩ := I.tuple hq
    obtain ⟨f0, f1, f2, f3, f4, f5⟩ := hf it (by simp)
    have hl := rv.length
    have hT : s.TypeIs (.ref e) "enumerate" := ⟨_, he, rfl⟩
    unfold pyNext
    refine wpAny_bind (wpAny_attempt (wpAny_callSpecial?_slot (name := Str.ofString "__next__") hT F.slot_enumerate_next
      (wpAny_call_entry F.slot_enumerate_next hT F.entry_enumerate_next ?_ (F.args_enumerate_next_1 _))))
    show wpAny _ _ (field (.ref e) 2 >>= _) _ _ _
    refine wpAny_bind (wpAny_field he rfl (x := .ref it) rfl ?_)
    refine wpAny_bind (wpAny_nextOf_tuple_end (show X.A.in1.handled = none from I.ok.hd hc) hit p (by rw [List.getElem?_toArray]; exact List.getElem?_eq_none (by omega)) fun h' x he' hx' => ?_)
    obtain ⟨o, ho, hcl⟩ := hx'
    refine wpAny_bind (wpAny_isInstance (T := "StopIteration") (b := true) ⟨o, ho, hcl⟩ isSubtype_stop ?_)
    obtain ⟨g0, g1, g2, g3, g4, g5⟩ := hf it (by simp)
    exact wpAny_pure ⟨rfl, I.turned (t' := s.toks) (fun b o hb q => he' b o hb q) g0 g1 g3 g4 g5⟩
  self := fun A i s Q E st h => let ⟨⟨_, he⟩, _⟩ := st; wpAny_pyIter_enum he h
def iEnumT (K : PySem.W.Frag) (ta : TA) : TI := fun σ H R => ta σ H fun vs H1 => ∃ a xs, vs = [.ref a] ∧ SqT K H1 a xs ∧ R (Itet K a) H1
theorem pi_enumT {X : Cx} {e : Expr} {ta : TA} {p pos tpos : Pos} {elts : List Expr} {kk : Nat} (hg : Gl X "enumerate") (hm : X.mg "enumerate" = none) (ha : PA X [e] ta) (hs : starEach [e] X.env = [(false, eval e X.env)] := by rfl) :
    PI X (.Tuple elts kk tpos) (.Call (.Name "enumerate" p) [e] [] pos) (iEnumT X.K ta) := by
  refine ⟨fun pins s σ H R I h => ?_⟩
  refine Call_ (ld_blt I hg hm boot_enumerate (PyProof.Rows.callWith_type1 (thn (ha.run pos pins s σ H _ I h) fun us s1 ⟨vs, H1, I1, r1, q1⟩ => ?_) hs rfl))
  obtain ⟨a, xs, ex, hq, q⟩ := q1
  subst ex
  cases r1 with
  | cons r rr =>
    cases rr
    cases r
    obtain ⟨its, rv, p', hz⟩ := I1.tuple hq
    have hal : a < s1.heap.objs.size := by
      obtain ⟨o, ho, _⟩ := p'
      exact Heap.lt_size ho
    refine call_enumerate_tup p' fun h' he hit hsz hk => wpAny_pyIter_enum he ?_
    have I2 : Inv X pins σ H1 { s1 with heap := h' } := I1.kept (t' := s1.toks) hk
    refine ⟨s1.heap.objs.size + 1, [s1.heap.objs.size + 1, s1.heap.objs.size], _, _, H1, rfl, I2, turn_enumT a (s1.heap.objs.size + 1) s1.heap.objs.size, ⟨⟨.none, he⟩, hit, Nat.succ_ne_self _, Nat.ne_of_lt (Nat.lt_succ_of_lt hal), Nat.ne_of_lt hal⟩, fun b hb => ?_, q⟩
    have e' : b = s1.heap.objs.size + 1 ∨ b = s1.heap.objs.size := by simpa using hb
    have hle : s1.heap.objs.size ≤ b := by
      rcases e' with z | z
      · rw [z]; exact Nat.le_add_right _ _
      · rw [z]; exact Nat.le_refl _
    exact I1.fpOk hle (I1.hok.fresh hle)
theorem walk_enumT {K : PySem.W.Frag} {a : Addr} {xs : List V} : Walk (Itet K a) xs.length (fun H => SqT K H a xs) (YPair (fun i => some (.int (i : Nat))) (fun i => xs[i]?)) := by
  refine ⟨fun i _ hi q => ⟨xs, xs[i], q, by simp [hi]⟩, fun _ q => ⟨xs, q, Nat.le_refl _⟩, fun i H v H' _ q y => ?_⟩
  obtain ⟨T, x, h1, h2, h3, h4⟩ := y
  exact ⟨T, .int (i : Nat), x, h1, h2, h3, rfl, h4 xs q⟩
end L2
set_option Elab.async false
set_option linter.all false
set_option maxRecDepth 100000
set_option maxHeartbeats 4000000
namespace K26
open PySem PySem.Spec PyProof.Rows L2
/-! ### addresses: the mathematics of a tree's nodes -/
abbrev Ad := List Nat
namespace Dt
/-- the nodes of the tree with this row of children, itself counted -/
def nodes : Dt → Nat | c k r => k.nodes + r.nodes | _ => 1
theorem nodes_pos : ∀ t : Dt, 1 ≤ t.nodes
  | x => Nat.le_refl 1
  | o => Nat.le_refl 1
  | c k r => Nat.le_trans (nodes_pos k) (Nat.le_add_right _ _)
def sub : Dt → Ad → Option Dt
  | t, [] => some t
  | c k _, 0 :: p => sub k p
  | c _ r, (j + 1) :: p => sub r (j :: p)
  | _, _ :: _ => none
def idx : Dt → Ad → Nat
  | _, [] => 0
  | c k _, 0 :: p => 1 + idx k p
  | c k r, (j + 1) :: p => k.nodes + idx r (j :: p)
  | _, _ :: _ => 0
def up : Ad → Ad
  | j :: p => (j + 1) :: p
  | [] => []
def adF : Dt → List Ad
  | c k r => (([] :: adF k).map (List.cons 0)) ++ (adF r).map up
  | _ => []
def ad (t : Dt) : List Ad := [] :: adF t
theorem sub_nil (t : Dt) : sub t [] = some t := by cases t <;> rfl
theorem idx_nil (t : Dt) : idx t [] = 0 := by cases t <;> rfl
theorem sub_c0 (k r : Dt) (p : Ad) : sub (c k r) (0 :: p) = sub k p := rfl
theorem sub_cs (k r : Dt) (j : Nat) (p : Ad) : sub (c k r) ((j + 1) :: p) = sub r (j :: p) := rfl
theorem idx_c0 (k r : Dt) (p : Ad) : idx (c k r) (0 :: p) = 1 + idx k p := rfl
theorem idx_cs (k r : Dt) (j : Nat) (p : Ad) : idx (c k r) ((j + 1) :: p) = k.nodes + idx r (j :: p) := rfl
theorem sub_o (j : Nat) (p : Ad) : sub o (j :: p) = none := by cases j <;> rfl
theorem sub_x (j : Nat) (p : Ad) : sub x (j :: p) = none := by cases j <;> rfl
theorem adF_len : ∀ t : Dt, (adF t).length + 1 = t.nodes
  | x => rfl
  | o => rfl
  | c k r => by
    have h1 := adF_len k
    have h2 := adF_len r
    show ((([] :: adF k).map (List.cons 0)) ++ (adF r).map up).length + 1 = k.nodes + r.nodes
    simp only [List.length_append, List.length_map, List.length_cons]
    omega
theorem ad_len (t : Dt) : (ad t).length = t.nodes := adF_len t
theorem ad_c (k r : Dt) : ad (c k r) = [] :: ((ad k).map (List.cons 0) ++ (adF r).map up) := rfl
/-- no address here begins with p -/
def Off (p : Ad) (l : List Ad) : Prop := ∀ q ∈ l, ¬ p <+: q
theorem adF_cons : ∀ (t : Dt) (q : Ad), q ∈ adF t → ∃ j p, q = j :: p
  | x, q, h => by simp [adF] at h
  | o, q, h => by simp [adF] at h
  | c k r, q, h => by
    have h' : q ∈ (ad k).map (List.cons 0) ++ (adF r).map up := h
    rcases List.mem_append.mp h' with h | h
    · obtain ⟨p, _, rfl⟩ := List.mem_map.mp h
      exact ⟨0, p, rfl⟩
    · obtain ⟨p, hp, rfl⟩ := List.mem_map.mp h
      obtain ⟨j, p', rfl⟩ := adF_cons r p hp
      exact ⟨j + 1, p', rfl⟩
theorem block : ∀ (t : Dt) (p : Ad) (u : Dt), sub t p = some u → ∃ A B, ad t = A ++ ((ad u).map (p ++ ·) ++ B) ∧ A.length = idx t p ∧ Off p A ∧ Off p B
  | t, [], u, h => by
    rw [sub_nil] at h
    cases h
    refine ⟨[], [], ?_, (idx_nil t).symm, by intro q h; simp at h, by intro q h; simp at h⟩
    simp
  | c k r, 0 :: p, u, h => by
    obtain ⟨A, B, e, l, oa, ob⟩ := block k p u h
    refine ⟨[] :: A.map (List.cons 0), B.map (List.cons 0) ++ (adF r).map up, ?_, ?_, ?_, ?_⟩
    · rw [ad_c, e]
      simp
    · rw [idx_c0, ← l]
      simp
      omega
    · intro q hq
      rcases List.mem_cons.mp hq with rfl | hq
      · simp
      · obtain ⟨q', hq', rfl⟩ := List.mem_map.mp hq
        intro z
        exact oa q' hq' (List.cons_prefix_cons.mp z).2
    · intro q hq
      rcases List.mem_append.mp hq with hq | hq
      · obtain ⟨q', hq', rfl⟩ := List.mem_map.mp hq
        intro z
        exact ob q' hq' (List.cons_prefix_cons.mp z).2
      · obtain ⟨q', hq', rfl⟩ := List.mem_map.mp hq
        obtain ⟨j, p', rfl⟩ := adF_cons r q' hq'
        intro z
        have := (List.cons_prefix_cons.mp z).1
        omega
  | c k r, (j + 1) :: p, u, h => by
    obtain ⟨A, B, e, l, oa, ob⟩ := block r (j :: p) u h
    cases A with
    | nil =>
      exfalso
      have e2 : ad r = (j :: p ++ []) :: (((adF u).map (j :: p ++ ·)) ++ B) := e
      have e3 : ([] : Ad) = j :: p ++ [] := (List.cons.inj e2).1
      cases e3
    | cons a A' =>
      have e2 : [] :: adF r = a :: (A' ++ ((ad u).map (j :: p ++ ·) ++ B)) := e
      obtain ⟨_, e3⟩ := List.cons.inj e2
      refine ⟨[] :: ((ad k).map (List.cons 0) ++ A'.map up), B.map up, ?_, ?_, ?_, ?_⟩
      · rw [ad_c, e3]
        simp [up, Function.comp_def]
      · rw [idx_cs, ← l, ← ad_len k]
        simp
        omega
      · intro q hq
        rcases List.mem_cons.mp hq with rfl | hq
        · simp
        · rcases List.mem_append.mp hq with hq | hq
          · obtain ⟨q', hq', rfl⟩ := List.mem_map.mp hq
            intro z
            have := (List.cons_prefix_cons.mp z).1
            omega
          · obtain ⟨q', hq', rfl⟩ := List.mem_map.mp hq
            have hm : q' ∈ adF r := by rw [e3]; exact List.mem_append_left _ hq'
            obtain ⟨j', p', rfl⟩ := adF_cons r q' hm
            intro z
            obtain ⟨z1, z2⟩ := List.cons_prefix_cons.mp z
            exact oa _ (List.mem_cons_of_mem _ hq') (List.cons_prefix_cons.mpr ⟨by omega, z2⟩)
      · intro q hq
        obtain ⟨q', hq', rfl⟩ := List.mem_map.mp hq
        have hm : q' ∈ adF r := by rw [e3]; exact List.mem_append_right _ (List.mem_append_right _ hq')
        obtain ⟨j', p', rfl⟩ := adF_cons r q' hm
        intro z
        obtain ⟨z1, z2⟩ := List.cons_prefix_cons.mp z
        exact ob _ hq' (List.cons_prefix_cons.mpr ⟨by omega, z2⟩)
  | o, j :: p, _, h => by rw [sub_o] at h; cases h
  | x, j :: p, _, h => by rw [sub_x] at h; cases h
theorem sub_app : ∀ (t : Dt) (p : Ad) (u : Dt), sub t p = some u → ∀ q, sub t (p ++ q) = sub u q ∧ idx t (p ++ q) = idx t p + idx u q
  | t, [], u, h, q => by
    rw [sub_nil] at h
    cases h
    rw [idx_nil]
    exact ⟨rfl, (Nat.zero_add _).symm⟩
  | c k r, 0 :: p, u, h, q => by
    obtain ⟨a, b⟩ := sub_app k p u h q
    refine ⟨a, ?_⟩
    show 1 + idx k (p ++ q) = 1 + idx k p + idx u q
    omega
  | c k r, (j + 1) :: p, u, h, q => by
    obtain ⟨a, b⟩ := sub_app r (j :: p) u h q
    refine ⟨a, ?_⟩
    show k.nodes + idx r (j :: p ++ q) = k.nodes + idx r (j :: p) + idx u q
    omega
  | o, j :: p, _, h, _ => by rw [sub_o] at h; cases h
  | x, j :: p, _, h, _ => by rw [sub_x] at h; cases h
theorem ad_at {t u : Dt} {p : Ad} (h : sub t p = some u) : (ad t)[idx t p]? = some p := by
  obtain ⟨A, B, e, l, _, _⟩ := block t p u h
  have e2 : (ad u).map (p ++ ·) = p :: (adF u).map (p ++ ·) := by
    show (p ++ []) :: _ = _
    rw [List.append_nil]
  rw [e, e2, ← l]
  simp
theorem idx_lt {t u : Dt} {p : Ad} (h : sub t p = some u) : idx t p + u.nodes ≤ t.nodes := by
  obtain ⟨A, B, e, l, _, _⟩ := block t p u h
  rw [← ad_len t, e, ← l, ← ad_len u]
  simp
/-- each address of the list leads to a node, and stands at its own number -/
theorem adF_sub : ∀ (t : Dt) (p : Ad), p ∈ adF t → ∃ u, sub t p = some u
  | x, q, h => by simp [adF] at h
  | o, q, h => by simp [adF] at h
  | c k r, q, h => by
    have h' : q ∈ (ad k).map (List.cons 0) ++ (adF r).map up := h
    rcases List.mem_append.mp h' with h | h
    · obtain ⟨p, hp, rfl⟩ := List.mem_map.mp h
      rcases List.mem_cons.mp hp with rfl | hp
      · exact ⟨k, sub_nil k⟩
      · exact adF_sub k p hp
    · obtain ⟨p, hp, rfl⟩ := List.mem_map.mp h
      obtain ⟨j, p', rfl⟩ := adF_cons r p hp
      exact adF_sub r (j :: p') hp
theorem ad_sub {t : Dt} {p : Ad} (h : p ∈ ad t) : ∃ u, sub t p = some u := by
  rcases List.mem_cons.mp h with rfl | h
  · exact ⟨t, sub_nil t⟩
  · exact adF_sub t p h
theorem sub_ad {t u : Dt} {p : Ad} (h : sub t p = some u) : p ∈ ad t := List.mem_of_getElem? (ad_at h)
/-! ### the order -/
def zs (p : Ad) : List Int := p.map (fun n : Nat => Int.ofNat n)
def lt (p q : Ad) : Bool := HT.lexLt (zs p) (zs q)
theorem lt_nil (j : Nat) (p : Ad) : lt [] (j :: p) = true := rfl
theorem nil_lt (p : Ad) : lt p [] = false := by cases p <;> rfl
theorem lt_cons (i j : Nat) (p q : Ad) : lt (i :: p) (j :: q) = if i = j then lt p q else decide (i < j) := by
  show (if Int.ofNat i = Int.ofNat j then HT.lexLt (zs p) (zs q) else decide (Int.ofNat i < Int.ofNat j)) = _
  have c1 : Int.ofNat i = (i : Int) := rfl
  have c2 : Int.ofNat j = (j : Int) := rfl
  rw [c1, c2]
  by_cases h : i = j
  · rw [if_pos h, if_pos (by omega)]; rfl
  · rw [if_neg h, if_neg (by omega)]
    by_cases h2 : i < j
    · rw [decide_eq_true h2, decide_eq_true (by omega)]
    · rw [decide_eq_false h2, decide_eq_false (by omega)]
theorem lt_irr : ∀ p : Ad, lt p p = false
  | [] => rfl
  | i :: p => by rw [lt_cons, if_pos rfl]; exact lt_irr p
theorem lt_asym : ∀ p q : Ad, lt p q = true → lt q p = false
  | [], [], h => rfl
  | [], _ :: _, h => rfl
  | _ :: _, [], h => nomatch h
  | i :: p, j :: q, h => by
    rw [lt_cons] at h ⊢
    by_cases e : i = j
    · rw [if_pos e] at h
      rw [if_pos e.symm]
      exact lt_asym p q h
    · rw [if_neg e] at h
      rw [if_neg (Ne.symm e)]
      have := of_decide_eq_true h
      exact decide_eq_false (by omega)
theorem up_lt (i j : Nat) (p q : Ad) : lt (up (i :: p)) (up (j :: q)) = lt (i :: p) (j :: q) := by
  show lt ((i + 1) :: p) ((j + 1) :: q) = _
  rw [lt_cons, lt_cons]
  by_cases e : i = j
  · rw [if_pos e, if_pos (by omega)]
  · rw [if_neg e, if_neg (by omega)]
    by_cases h2 : i < j
    · rw [decide_eq_true h2, decide_eq_true (by omega)]
    · rw [decide_eq_false h2, decide_eq_false (by omega)]
def Asc (l : List Ad) : Prop := l.Pairwise fun p q => lt p q = true
theorem adF_asc : ∀ t : Dt, Asc (ad t)
  | x => List.pairwise_singleton _ _
  | o => List.pairwise_singleton _ _
  | c k r => by
    have h1 := adF_asc k
    have h2 := adF_asc r
    rw [ad_c]
    refine List.pairwise_cons.mpr ⟨?_, List.pairwise_append.mpr ⟨?_, ?_, ?_⟩⟩
    · intro q hq
      have hq' : q ∈ adF (c k r) := hq
      obtain ⟨j, p, rfl⟩ := adF_cons _ q hq'
      rfl
    · refine List.pairwise_map.mpr (h1.imp ?_)
      intro a b h
      show lt (0 :: a) (0 :: b) = true
      rw [lt_cons, if_pos rfl]
      exact h
    · refine List.pairwise_map.mpr ?_
      have h3 := (List.pairwise_cons.mp h2).2
      refine h3.imp_of_mem ?_
      intro a b ha hb h
      obtain ⟨i, p, rfl⟩ := adF_cons _ a ha
      obtain ⟨j, q, rfl⟩ := adF_cons _ b hb
      rw [up_lt]
      exact h
    · intro a ha b hb
      obtain ⟨p, _, rfl⟩ := List.mem_map.mp ha
      obtain ⟨q, hq, rfl⟩ := List.mem_map.mp hb
      obtain ⟨j, q', rfl⟩ := adF_cons _ q hq
      show lt (0 :: p) ((j + 1) :: q') = true
      rw [lt_cons, if_neg (by omega)]
      exact decide_eq_true (by omega)
theorem ad_asc (t : Dt) : Asc (ad t) := adF_asc t
theorem ad_nodup (t : Dt) : (ad t).Nodup := (ad_asc t).imp fun {p q} h e => by
  rw [e, lt_irr] at h
  exact nomatch h
/-- the number of an address is where it stands -/
theorem idx_of {t : Dt} {p : Ad} {i : Nat} (h : (ad t)[i]? = some p) : idx t p = i := by
  obtain ⟨u, hu⟩ := ad_sub (List.mem_of_getElem? h)
  have h2 := ad_at hu
  obtain ⟨l1, e1⟩ := List.getElem?_eq_some_iff.mp h
  obtain ⟨l2, e2⟩ := List.getElem?_eq_some_iff.mp h2
  exact (List.getElem_inj (ad_nodup t)).mp (e2.trans e1.symm)
theorem idx_inj {t : Dt} {p q : Ad} (hp : p ∈ ad t) (hq : q ∈ ad t) (h : idx t p = idx t q) : p = q := by
  obtain ⟨u, hu⟩ := ad_sub hp
  obtain ⟨v, hv⟩ := ad_sub hq
  have h1 := ad_at hu
  have h2 := ad_at hv
  rw [h, h2] at h1
  exact (Option.some.inj h1).symm
/-- within: the numbers from its own to the last of its bough -/
theorem within {t u : Dt} {p q : Ad} (hp : sub t p = some u) (hq : q ∈ ad t) : (idx t p ≤ idx t q ∧ idx t q < idx t p + u.nodes) ↔ p <+: q := by
  constructor
  · rintro ⟨h1, h2⟩
    obtain ⟨v, hv⟩ := ad_sub hq
    have h3 := ad_at hv
    obtain ⟨A, B, e, l, _, _⟩ := block t p u hp
    rw [e, List.getElem?_append_right (by omega), List.getElem?_append_left (by rw [List.length_map, ad_len]; omega), List.getElem?_map] at h3
    obtain ⟨q', _, e'⟩ := Option.map_eq_some_iff.mp h3
    exact ⟨q', e'⟩
  · rintro ⟨q', rfl⟩
    obtain ⟨v, hv⟩ := ad_sub hq
    obtain ⟨a, b⟩ := sub_app t p u hp q'
    rw [a] at hv
    have h4 := idx_lt hv
    have := v.nodes_pos
    omega
/-- what lies above a node is a node -/
theorem sub_pre : ∀ (t : Dt) (p q : Ad) (u : Dt), sub t (p ++ q) = some u → ∃ v, sub t p = some v
  | t, [], q, u, h => ⟨t, sub_nil t⟩
  | c k r, 0 :: p, q, u, h => sub_pre k p q u h
  | c k r, (j + 1) :: p, q, u, h => sub_pre r (j :: p) q u h
  | o, j :: p, q, _, h => by rw [List.cons_append, sub_o] at h; cases h
  | x, j :: p, q, _, h => by rw [List.cons_append, sub_x] at h; cases h
theorem pre_ad {t : Dt} {p q : Ad} (h : q ∈ ad t) (hp : p <+: q) : p ∈ ad t := by
  obtain ⟨r, rfl⟩ := hp
  obtain ⟨u, hu⟩ := ad_sub h
  obtain ⟨v, hv⟩ := sub_pre t p r u hu
  exact sub_ad hv
/-! ### the children of a row -/
theorem sub_one : ∀ (t : Dt) (j : Nat), sub t [j] = t.kids[j]?
  | x, j => by cases j <;> rfl
  | o, j => by cases j <;> rfl
  | c k r, 0 => sub_nil k
  | c k r, j + 1 => by
    show sub r [j] = r.kids[j]?
    exact sub_one r j
theorem idx_one : ∀ (t : Dt) (j : Nat) (k : Dt), t.kids[j]? = some k → (j = 0 → idx t [j] = 1) ∧ idx t [j] + k.nodes ≤ t.nodes ∧ (∀ k', t.kids[j + 1]? = some k' → idx t [j + 1] = idx t [j] + k.nodes) ∧ (t.kids[j + 1]? = none → idx t [j] + k.nodes = t.nodes)
  | x, j, k, h => by cases j <;> exact nomatch h
  | o, j, k, h => by cases j <;> exact nomatch h
  | c k0 r, 0, k, h => by
    obtain rfl : k0 = k := Option.some.inj h
    have e0 : idx (c k0 r) [0] = 1 := by
      show 1 + idx k0 [] = 1
      rw [idx_nil]
    refine ⟨fun _ => e0, ?_, fun k' h' => ?_, fun h' => ?_⟩
    · rw [e0]
      show 1 + k0.nodes ≤ k0.nodes + r.nodes
      have := r.nodes_pos
      omega
    · have h2 : r.kids[0]? = some k' := h'
      have h3 := (idx_one r 0 k' h2).1 rfl
      rw [e0]
      show k0.nodes + idx r [0] = 1 + k0.nodes
      omega
    · have h2 : r.kids[0]? = none := h'
      have h3 : r.nodes = 1 := by
        cases r with
        | x => rfl
        | o => rfl
        | c a b => exact nomatch h2
      rw [e0]
      show 1 + k0.nodes = k0.nodes + r.nodes
      omega
  | c k0 r, j + 1, k, h => by
    have h2 : r.kids[j]? = some k := h
    obtain ⟨q0, q1, q2, q3⟩ := idx_one r j k h2
    have e0 : idx (c k0 r) [j + 1] = k0.nodes + idx r [j] := rfl
    refine ⟨fun z => by omega, ?_, fun k' h' => ?_, fun h' => ?_⟩
    · rw [e0]
      show k0.nodes + idx r [j] + k.nodes ≤ k0.nodes + r.nodes
      omega
    · have := q2 k' h'
      show k0.nodes + idx r [j + 1] = _
      omega
    · have := q3 h'
      rw [e0]
      show k0.nodes + idx r [j] + k.nodes = k0.nodes + r.nodes
      omega
/-! ### leaves -/
def isLf (t : Dt) (p : Ad) : Bool := match sub t p with | some u => u.len == 0 | none => false
def lv (t : Dt) : List Ad := (ad t).filter (isLf t)
def low (t : Dt) (p : Ad) : Nat := (((ad t).take (idx t p)).filter (isLf t)).length
def lf (t : Dt) : Nat := (lv t).length
theorem isLf_app {t u : Dt} {p : Ad} (h : sub t p = some u) (q : Ad) : isLf t (p ++ q) = isLf u q := by
  unfold isLf
  rw [(sub_app t p u h q).1]
theorem filter_blk {t u : Dt} {p : Ad} (h : sub t p = some u) : ((ad u).map (p ++ ·)).filter (isLf t) = (lv u).map (p ++ ·) := by
  unfold lv
  rw [List.filter_map]
  congr 1
  refine List.filter_congr fun q _ => ?_
  exact isLf_app h q
/-- the leaves ahead, within, behind -/
theorem lv_block {t u : Dt} {p : Ad} (h : sub t p = some u) : ∃ A B, lv t = A ++ ((lv u).map (p ++ ·) ++ B) ∧ A.length = low t p ∧ A = ((ad t).take (idx t p)).filter (isLf t) ∧ Off p A ∧ Off p B := by
  obtain ⟨A, B, e, l, oa, ob⟩ := block t p u h
  have et : (ad t).take (idx t p) = A := by rw [e, ← l]; simp
  refine ⟨A.filter (isLf t), B.filter (isLf t), ?_, ?_, by rw [et], fun q hq => oa q ((List.mem_filter.mp hq).1), fun q hq => ob q ((List.mem_filter.mp hq).1)⟩
  · rw [← filter_blk h, ← List.filter_append, ← List.filter_append, ← e]
    rfl
  · unfold low
    rw [et]
theorem low_le {t u : Dt} {p : Ad} (h : sub t p = some u) : low t p + lf u ≤ lf t := by
  obtain ⟨A, B, e, l, _⟩ := lv_block h
  unfold lf
  rw [e, ← l]
  simp
/-- the next at its side -/
theorem low_next {t u : Dt} {p q : Ad} (h : sub t p = some u) (e : idx t q = idx t p + u.nodes) : low t q = low t p + lf u := by
  obtain ⟨A, B, e1, l, oa, ob⟩ := block t p u h
  have et : (ad t).take (idx t p) = A := by rw [e1, ← l]; simp
  have et2 : (ad t).take (idx t q) = A ++ (ad u).map (p ++ ·) := by
    rw [e, e1, ← l, ← ad_len u, ← List.append_assoc]
    exact List.take_left' (by simp)
  unfold low
  rw [et2, et, List.filter_append, filter_blk h, List.length_append, List.length_map]
  rfl
theorem low_first {t : Dt} {p q : Ad} (hp : p ∈ ad t) (hl : isLf t p = false) (e : idx t q = idx t p + 1) : low t q = low t p := by
  obtain ⟨u, hu⟩ := ad_sub hp
  have h := ad_at hu
  unfold low
  rw [e, List.take_add_one, h]
  simp [hl]
theorem low_nil (t : Dt) : low t [] = 0 := by
  unfold low
  rw [idx_nil]
  rfl
theorem isLf_o {t u : Dt} {p : Ad} (h : sub t p = some u) : isLf t p = (u.len == 0) := by
  unfold isLf
  rw [h]
theorem lv_leaf {u : Dt} (h : u.len = 0) : lv u = [[]] ∧ ad u = [[]] := by
  cases u with
  | x => exact ⟨rfl, rfl⟩
  | o => exact ⟨rfl, rfl⟩
  | c k r => exact nomatch h
/-- the leaves below p in the order are those ahead of its bough -/
theorem low_lt {t : Dt} {p : Ad} (hp : p ∈ ad t) : ((lv t).filter fun q => lt q p).length = low t p := by
  obtain ⟨u, hu⟩ := ad_sub hp
  have hat := ad_at hu
  have hs : ad t = (ad t).take (idx t p) ++ p :: (ad t).drop (idx t p + 1) := by
    obtain ⟨hl, he⟩ := List.getElem?_eq_some_iff.mp hat
    conv => lhs; rw [← List.take_append_drop (idx t p) (ad t), List.drop_eq_getElem_cons hl, he]
  have ha := ad_asc t
  unfold Asc at ha
  rw [hs] at ha
  obtain ⟨_, h2, h3⟩ := List.pairwise_append.mp ha
  have h4 := (List.pairwise_cons.mp h2).1
  unfold lv low
  rw [List.filter_filter]
  conv => lhs; rw [hs]
  rw [List.filter_append, List.length_append]
  have e1 : List.filter (fun a => lt a p && isLf t a) ((ad t).take (idx t p)) = List.filter (isLf t) ((ad t).take (idx t p)) := by
    refine List.filter_congr fun q hq => ?_
    rw [h3 q hq p (by simp), Bool.true_and]
  have e2 : List.filter (fun a => lt a p && isLf t a) (p :: (ad t).drop (idx t p + 1)) = [] := by
    refine List.filter_eq_nil_iff.mpr fun q hq => ?_
    rcases List.mem_cons.mp hq with rfl | hq
    · rw [lt_irr]; simp
    · rw [lt_asym p q (h4 q hq)]; simp
  rw [e1, e2]
  rfl
theorem pre_take {p q : Ad} : (q.take p.length = p) ↔ p <+: q := by
  constructor
  · intro h
    have h2 := List.take_append_drop p.length q
    rw [h] at h2
    exact ⟨q.drop p.length, h2⟩
  · rintro ⟨r, rfl⟩
    simp
theorem high_pre {t u : Dt} {p : Ad} (h : sub t p = some u) : ((lv t).filter fun q => decide (q.take p.length = p)).length = lf u := by
  obtain ⟨A, B, e, l, _, oa, ob⟩ := lv_block h
  rw [e, List.filter_append, List.filter_append]
  have e1 : List.filter (fun q => decide (q.take p.length = p)) A = [] := List.filter_eq_nil_iff.mpr fun q hq => by
    rw [decide_eq_false (fun z => oa q hq (pre_take.mp z))]; simp
  have e2 : List.filter (fun q => decide (q.take p.length = p)) B = [] := List.filter_eq_nil_iff.mpr fun q hq => by
    rw [decide_eq_false (fun z => ob q hq (pre_take.mp z))]; simp
  have e3 : List.filter (fun q => decide (q.take p.length = p)) ((lv u).map (p ++ ·)) = (lv u).map (p ++ ·) := List.filter_eq_self.mpr fun q hq => by
    obtain ⟨q', _, rfl⟩ := List.mem_map.mp hq
    exact decide_eq_true (pre_take.mpr ⟨q', rfl⟩)
  rw [e1, e2, e3]
  simp [lf]
/-- a node is a leaf when the next address does not begin with its own -/
theorem leaf_next {t : Dt} {p : Ad} {i : Nat} (h : (ad t)[i]? = some p) : isLf t p = true ↔ ∀ q, (ad t)[i + 1]? = some q → ¬ p <+: q := by
  obtain ⟨u, hu⟩ := ad_sub (List.mem_of_getElem? h)
  have hi := idx_of h
  rw [isLf_o hu]
  constructor
  · intro e q hq hpq
    have hw := (within hu (List.mem_of_getElem? hq)).mpr hpq
    have hj := idx_of hq
    have : u.nodes = 1 := by
      cases u with
      | x => rfl
      | o => rfl
      | c k r => exact nomatch e
    omega
  · intro e
    cases u with
    | x => rfl
    | o => rfl
    | c k r =>
      exfalso
      obtain ⟨a, b⟩ := sub_app t p _ hu [0]
      have h1 : sub t (p ++ [0]) = some k := by rw [a]; exact sub_nil k
      have h2 := ad_at h1
      have h3 : idx (c k r) [0] = 1 := by
        show 1 + idx k [] = 1
        rw [idx_nil]
      rw [b, h3, hi] at h2
      exact e _ h2 ⟨[0], rfl⟩
/-! ### common beginnings -/
def lcp : Ad → Ad → Nat
  | i :: p, j :: q => if i = j then lcp p q + 1 else 0
  | _, _ => 0
theorem lcp_le : ∀ p q : Ad, lcp p q ≤ p.length ∧ lcp p q ≤ q.length
  | [], _ => ⟨Nat.zero_le _, Nat.zero_le _⟩
  | _ :: _, [] => ⟨Nat.zero_le _, Nat.zero_le _⟩
  | i :: p, j :: q => by
    have := lcp_le p q
    by_cases e : i = j <;> simp [lcp, e] <;> omega
/-- q begins with the first n of p just when n is at most the common length -/
theorem lcp_pre : ∀ (p q : Ad) (n : Nat), n ≤ p.length → (p.take n <+: q ↔ n ≤ lcp p q)
  | [], q, n, h => by
    have : n = 0 := by simpa using h
    subst this
    simp
  | i :: p, [], n, h => by
    cases n with
    | zero => simp
    | succ n => simp [lcp]
  | i :: p, j :: q, n, h => by
    cases n with
    | zero => simp
    | succ n =>
      have h' : n ≤ p.length := by simpa using h
      have ih := lcp_pre p q n h'
      rw [List.take_succ_cons, List.cons_prefix_cons]
      by_cases e : i = j
      · simp [lcp, e, ih]
      · simp [lcp, e]
/-- the law's count: the first place where they differ -/
theorem lcp_first (p q : Ad) (n : Nat) (hn : n < min p.length q.length) (h : p[n]? ≠ q[n]?) (ha : p.take n <+: q) : lcp p q = n := by
  have h1 := (lcp_pre p q n (by omega)).mp ha
  have h2 : ¬ n + 1 ≤ lcp p q := by
    intro z
    have h3 := (lcp_pre p q (n + 1) (by omega)).mpr z
    obtain ⟨r, hr⟩ := h3
    apply h
    rw [← hr, List.getElem?_append_left (by rw [List.length_take]; omega), List.getElem?_take]
    simp
  omega
end Dt
end K26
set_option Elab.async false
set_option linter.all false
set_option maxRecDepth 100000
set_option maxHeartbeats 4000000
namespace K26
open PySem PySem.Spec PyProof.Rows L2
/-! ### a ShapeTree in memory -/
/-- its attributes: the form, then ten lists -/
def stF (fv : V) (L : Nat → Addr) : List (Str × V) :=
  [("form", fv), ("boughs", .ref (L 0)), ("parents", .ref (L 1)), ("kids", .ref (L 2)), ("depths", .ref (L 3)), ("sides", .ref (L 4)), ("lows", .ref (L 5)), ("highs", .ref (L 6)), ("ends", .ref (L 7)), ("leaves", .ref (L 8)), ("paths", .ref (L 9))]
section
variable (fv : V) (L : Nat → Addr)
theorem stF_form : (stF fv L).lookup ("form" : Str) = some fv := by rfl
theorem stF_0 : (stF fv L).lookup ("boughs" : Str) = some (.ref (L 0)) := by rfl
theorem stF_1 : (stF fv L).lookup ("parents" : Str) = some (.ref (L 1)) := by rfl
theorem stF_2 : (stF fv L).lookup ("kids" : Str) = some (.ref (L 2)) := by rfl
theorem stF_3 : (stF fv L).lookup ("depths" : Str) = some (.ref (L 3)) := by rfl
theorem stF_4 : (stF fv L).lookup ("sides" : Str) = some (.ref (L 4)) := by rfl
theorem stF_5 : (stF fv L).lookup ("lows" : Str) = some (.ref (L 5)) := by rfl
theorem stF_6 : (stF fv L).lookup ("highs" : Str) = some (.ref (L 6)) := by rfl
theorem stF_7 : (stF fv L).lookup ("ends" : Str) = some (.ref (L 7)) := by rfl
theorem stF_8 : (stF fv L).lookup ("leaves" : Str) = some (.ref (L 8)) := by rfl
theorem stF_9 : (stF fv L).lookup ("paths" : Str) = some (.ref (L 9)) := by rfl
theorem stF_grow : (stF fv L).lookup ("_grow" : Str) = none := by rfl
end

theorem putF_new {f : Str} {v : V} : ∀ {fs : List (Str × V)}, (∀ g ∈ fs.map (·.1), ¬ g = f) → putF f v fs = fs ++ [(f, v)]
  | [], _ => rfl
  | (g, y) :: r, h => by
    show (if g = f then (g, v) :: r else (g, y) :: putF f v r) = _
    rw [if_neg (h g (by simp)), putF_new (fs := r) fun z hz => h z (by simp [hz])]
    rfl
structure TreeAt (C : Addr) (H : Hp) (a dx : Addr) (fv : V) (L : Nat → Addr) (S : Nat → List V) : Prop where
  ob : H a = some (.ins C dx (stF fv L))
  ls : ∀ i, i < 10 → H (L i) = some (.lst (S i))
  inj : ∀ i j, i < 10 → j < 10 → L i = L j → i = j
/-- what is no list of the tree stands as before -/
def Keep (L : Nat → Addr) (H H' : Hp) : Prop := ∀ y o, H y = some o → (∀ i, i < 10 → y ≠ L i) → H' y = some o
/-- tuples stand as before -/
def KeepT (H H' : Hp) : Prop := ∀ y xs, (H y = some (.tup xs) → H' y = some (.tup xs)) ∧ (∀ o, H y = some (.frz o (.tup xs)) → H' y = some (.frz o (.tup xs)))
theorem Keep.refl (L : Nat → Addr) (H : Hp) : Keep L H H := fun _ _ h _ => h
theorem Keep.trans {L : Nat → Addr} {H H1 H2 : Hp} (a : Keep L H H1) (b : Keep L H1 H2) : Keep L H H2 := fun y o h n => b y o (a y o h n) n
theorem Keep.same {L : Nat → Addr} {H H1 H2 : Hp} (a : Keep L H H1) (b : Same H1 H2) : Keep L H H2 := fun y o h n => b y o (a y o h n)
theorem KeepT.refl (H : Hp) : KeepT H H := fun _ _ => ⟨fun h => h, fun _ h => h⟩
theorem KeepT.trans {H H1 H2 : Hp} (a : KeepT H H1) (b : KeepT H1 H2) : KeepT H H2 := fun y xs => ⟨fun h => (b y xs).1 ((a y xs).1 h), fun o h => (b y xs).2 o ((a y xs).2 o h)⟩
theorem KeepT.of_same {H H' : Hp} (e : Same H H') : KeepT H H' := fun y xs => ⟨fun h => e _ _ h, fun o h => e _ _ h⟩
theorem TreeAt.keepT {C : Addr} {H H' : Hp} {a dx : Addr} {fv : V} {L : Nat → Addr} {S : Nat → List V} (t : TreeAt C H a dx fv L S) (k : Keep L H H') : KeepT H H' := fun y xs =>
  ⟨fun h => k y _ h (fun i hi e => by rw [e, t.ls i hi] at h; exact HO.noConfusion (Option.some.inj h)), fun o h => k y _ h (fun i hi e => by rw [e, t.ls i hi] at h; exact HO.noConfusion (Option.some.inj h))⟩
def st (S : Nat → List V) (i : Nat) (xs : List V) : Nat → List V := fun j => if j = i then xs else S j
theorem TreeAt.put {C : Addr} {H : Hp} {a dx : Addr} {fv : V} {L : Nat → Addr} {S : Nat → List V} (t : TreeAt C H a dx fv L S) {i : Nat} (hi : i < 10) (xs : List V) : TreeAt C (upd H (L i) (.lst xs)) a dx fv L (st S i xs) := by
  refine ⟨?_, fun j hj => ?_, t.inj⟩
  · rw [upd_ne]
    · exact t.ob
    · intro e
      have h := t.ls i hi
      rw [← e, t.ob] at h
      exact HO.noConfusion (Option.some.inj h)
  · unfold st
    by_cases e : j = i
    · subst e
      rw [upd_same, if_pos rfl]
    · rw [upd_ne (fun z => e (t.inj j i hj hi z)), if_neg e]
      exact t.ls j hj
theorem TreeAt.same {C : Addr} {H H' : Hp} {a dx : Addr} {fv : V} {L : Nat → Addr} {S : Nat → List V} (t : TreeAt C H a dx fv L S) (e : Same H H') : TreeAt C H' a dx fv L S := ⟨e _ _ t.ob, fun j hj => e _ _ (t.ls j hj), t.inj⟩
theorem Keep.put {L : Nat → Addr} {H H' : Hp} (k : Keep L H H') {i : Nat} (hi : i < 10) (o : HO) : Keep L H (upd H' (L i) o) := fun y u h n => by
  rw [upd_ne (n i hi)]
  exact k y u h n
theorem kt_sqt {K : PySem.W.Frag} {H H' : Hp} {a : Addr} {xs : List V} (e : KeepT H H') (h : SqT K H a xs) : SqT K H' a xs := by
  rcases h with (h | ⟨o, h⟩) | h
  · exact .inl (.inl ((e _ _).1 h))
  · exact .inl (.inr ⟨o, (e _ _).2 o h⟩)
  · exact .inr h
/-- a row of shapes -/
inductive ShF (K : PySem.W.Frag) (H : Hp) : List V → Dt → Prop
  | nil : ShF K H [] .o
  | cons {a : Addr} {vs ws : List V} {k r : Dt} (h : SqT K H a vs) (p : ShF K H vs k) (q : ShF K H ws r) : ShF K H (.ref a :: ws) (.c k r)
theorem ShF.keep {K : PySem.W.Frag} {H H' : Hp} (e : KeepT H H') {vs : List V} {t : Dt} (h : ShF K H vs t) : ShF K H' vs t := by
  induction h with
  | nil => exact .nil
  | cons h _ _ ih1 ih2 => exact .cons (kt_sqt e h) ih1 ih2
theorem ShF.dtf {K : PySem.W.Frag} {H : Hp} {vs : List V} {t : Dt} (h : ShF K H vs t) : DtF K H vs t := by
  induction h with
  | nil => exact .nil
  | cons h _ _ ih1 ih2 => exact .tup h ih1 ih2
theorem ShF.len {K : PySem.W.Frag} {H : Hp} {vs : List V} {t : Dt} (h : ShF K H vs t) : vs.length = t.len := h.dtf.len
/-- a shape -/
def ShV (K : PySem.W.Frag) (H : Hp) (v : V) (t : Dt) : Prop := ∃ a vs, v = .ref a ∧ SqT K H a vs ∧ ShF K H vs t
theorem ShV.keep {K : PySem.W.Frag} {H H' : Hp} (e : KeepT H H') {v : V} {t : Dt} (h : ShV K H v t) : ShV K H' v t := by
  obtain ⟨a, vs, h1, h2, h3⟩ := h
  exact ⟨a, vs, h1, kt_sqt e h2, h3.keep e⟩
theorem ShF.at {K : PySem.W.Frag} {H : Hp} {vs : List V} {t : Dt} (h : ShF K H vs t) : ∀ (i : Nat) (v : V), vs[i]? = some v → ∃ k, t.kids[i]? = some k ∧ ShV K H v k := by
  induction h with
  | nil => intro i v h; simp at h
  | @cons a vs ws k r h p q _ ih2 =>
    intro i v hi
    cases i with
    | zero =>
      obtain rfl : V.ref a = v := by simpa using hi
      exact ⟨k, rfl, a, vs, rfl, h, p⟩
    | succ i =>
      have hi' : ws[i]? = some v := by simpa using hi
      exact ih2 i v hi'
namespace Dt
/-- the greatest depth -/
def ht : Dt → Nat | c k r => max (k.ht + 1) r.ht | _ => 0
theorem ht_kid : ∀ (t : Dt) (i : Nat) (k : Dt), t.kids[i]? = some k → k.ht + 1 ≤ t.ht
  | x, i, k, h => by simp [kids] at h
  | o, i, k, h => by simp [kids] at h
  | c k0 r, 0, k, h => by
    obtain rfl : k0 = k := Option.some.inj h
    exact Nat.le_max_left _ _
  | c k0 r, i + 1, k, h => Nat.le_trans (ht_kid r i k h) (Nat.le_max_right _ _)
/-! the addresses child by child -/
def rowsN (f : Dt → List Ad) (u : Dt) : Nat → List Ad
  | 0 => []
  | i + 1 => rowsN f u i ++ match u.kids[i]? with | some k => (f k).map (List.cons i) | none => []
theorem rowsN_up (f : Dt → List Ad) (hf : ∀ t, ∀ q ∈ f t, True) (k r : Dt) : ∀ i, rowsN f (c k r) (i + 1) = (f k).map (List.cons 0) ++ (rowsN f r i).map up
  | 0 => by simp [rowsN, kids]
  | i + 1 => by
    have ih := rowsN_up f hf k r i
    show rowsN f (c k r) (i + 1) ++ _ = _
    rw [ih]
    show _ ++ (match r.kids[i]? with | some k => (f k).map (List.cons (i + 1)) | none => []) = _
    show _ = (f k).map (List.cons 0) ++ (rowsN f r i ++ match r.kids[i]? with | some k => (f k).map (List.cons i) | none => []).map up
    rw [List.map_append, List.append_assoc]
    congr 2
    cases r.kids[i]? with
    | none => rfl
    | some k' => simp [up, Function.comp_def]
theorem adF_rows : ∀ u : Dt, adF u = rowsN ad u u.len
  | x => rfl
  | o => rfl
  | c k r => by
    show (ad k).map (List.cons 0) ++ (adF r).map up = rowsN ad (c k r) (r.len + 1)
    rw [rowsN_up ad (fun _ _ _ => trivial), adF_rows r]
theorem ad_rows (u : Dt) : ad u = [] :: rowsN ad u u.len := by
  rw [← adF_rows]
  rfl
theorem lvF_rows : ∀ u : Dt, (adF u).filter (isLf u) = rowsN lv u u.len
  | x => rfl
  | o => rfl
  | c k r => by
    show ((ad k).map (List.cons 0) ++ (adF r).map up).filter (isLf (c k r)) = rowsN lv (c k r) (r.len + 1)
    rw [rowsN_up lv (fun _ _ _ => trivial), ← lvF_rows r, List.filter_append]
    congr 1
    · unfold lv
      rw [List.filter_map]
      rfl
    · rw [List.filter_map]
      congr 1
      refine List.filter_congr fun q hq => ?_
      obtain ⟨j, p, rfl⟩ := adF_cons r q hq
      rfl
theorem lv_rows (u : Dt) (h : u.len ≠ 0) : lv u = rowsN lv u u.len := by
  rw [← lvF_rows]
  unfold lv ad
  have : isLf u [] = false := by
    rw [isLf_o (sub_nil u)]
    simpa using h
  rw [List.filter_cons, this]
  rfl
theorem idx_rows (u : Dt) : ∀ i, i < u.len → idx u [i] = 1 + (rowsN ad u i).length
  | 0, h => by
    rw [← kids_len] at h
    exact (idx_one u 0 _ (List.getElem?_eq_getElem h)).1 rfl
  | i + 1, h => by
    have ih := idx_rows u i (by omega)
    rw [← kids_len] at h
    have h1 : u.kids[i]? = some u.kids[i] := List.getElem?_eq_getElem (by omega)
    have h2 : u.kids[i + 1]? = some u.kids[i + 1] := List.getElem?_eq_getElem h
    have h3 := (idx_one u i _ h1).2.2.1 _ h2
    rw [h3, ih]
    show 1 + (rowsN ad u i).length + _ = 1 + (rowsN ad u i ++ match u.kids[i]? with | some k => (ad k).map (List.cons i) | none => []).length
    rw [h1, List.length_append, List.length_map, ad_len]
    omega
theorem low_rows {T u : Dt} {p : Ad} (hp : sub T p = some u) : ∀ i, i < u.len → low T (p ++ [i]) = low T p + (rowsN lv u i).length
  | 0, h => by
    obtain ⟨a, b⟩ := sub_app T p u hp [0]
    have h' : 0 < u.kids.length := by rw [kids_len]; exact h
    have h1 := (idx_one u 0 _ (List.getElem?_eq_getElem h')).1 rfl
    refine (low_first (sub_ad hp) ?_ (by omega)).trans rfl
    rw [isLf_o hp]
    simp
    omega
  | i + 1, h => by
    have ih := low_rows hp i (by omega)
    have h' := h
    rw [← kids_len] at h'
    have h1 : u.kids[i]? = some u.kids[i] := List.getElem?_eq_getElem (by omega)
    have h2 : u.kids[i + 1]? = some u.kids[i + 1] := List.getElem?_eq_getElem h'
    have h3 := (idx_one u i _ h1).2.2.1 _ h2
    obtain ⟨a, b⟩ := sub_app T p u hp [i]
    obtain ⟨a2, b2⟩ := sub_app T p u hp [i + 1]
    rw [sub_one, h1] at a
    have h4 := low_next a (q := p ++ [i + 1]) (by omega)
    rw [h4, ih]
    show low T p + (rowsN lv u i).length + _ = low T p + (rowsN lv u i ++ match u.kids[i]? with | some k => (lv k).map (List.cons i) | none => []).length
    rw [h1, List.length_append, List.length_map]
    unfold lf
    omega
theorem rowsN_le {f : Dt → List Ad} {u : Dt} : ∀ {i j : Nat}, i ≤ j → (rowsN f u i).length ≤ (rowsN f u j).length
  | i, 0, h => by
    have : i = 0 := by omega
    subst this
    exact Nat.le_refl _
  | i, j + 1, h => by
    by_cases e : i = j + 1
    · subst e; exact Nat.le_refl _
    · refine Nat.le_trans (rowsN_le (j := j) (by omega)) ?_
      show _ ≤ (rowsN f u j ++ _).length
      rw [List.length_append]
      omega
end Dt
end K26
set_option Elab.async false
set_option linter.all false
set_option maxRecDepth 100000
set_option maxHeartbeats 4000000
namespace K26
open PySem PySem.Spec PyProof.Rows L2 Dt
/-! ### what the lists hold for a node -/
def pth (T : Dt) (p : Ad) (n : Nat) : List V := (List.range n).map fun k => V.int (T.idx (p.take k) : Nat)
def parV (T : Dt) (q : Ad) : V := if q = [] then .non else .int (T.idx q.dropLast : Nat)
def sideI (q : Ad) : Int := match q.getLast? with | some i => (i : Nat) | none => -1
def kidV (T : Dt) (q : Ad) (w : Dt) : List V := (List.range w.len).map fun j => V.int (T.idx (q ++ [j]) : Nat)
def Cell (K : PySem.W.Frag) (H : Hp) (T : Dt) : Nat → V → Ad → Prop
  | 0, v, q => ∃ w, T.sub q = some w ∧ ShV K H v w
  | 1, v, q => v = parV T q
  | 2, v, q => ∃ w b, T.sub q = some w ∧ v = .ref b ∧ SqT K H b (kidV T q w)
  | 3, v, q => v = .int (q.length : Nat)
  | 4, v, q => v = .int (sideI q)
  | 5, v, q => v = .int (T.low q : Nat)
  | 6, v, q => ∃ w, T.sub q = some w ∧ v = .int (T.low q + w.lf : Nat)
  | 7, v, q => ∃ w, T.sub q = some w ∧ v = .int (T.idx q + w.nodes : Nat)
  | 8, v, q => v = .int (T.idx q : Nat)
  | _, v, q => ∃ b, v = .ref b ∧ SqT K H b (pth T q (q.length + 1))
theorem Cell.keep {K : PySem.W.Frag} {H H' : Hp} {T : Dt} (e : KeepT H H') : ∀ (i : Nat) (v : V) (q : Ad), Cell K H T i v q → Cell K H' T i v q
  | 0, v, q, ⟨w, h1, h2⟩ => ⟨w, h1, h2.keep e⟩
  | 1, v, q, h => h
  | 2, v, q, ⟨w, b, h1, h2, h3⟩ => ⟨w, b, h1, h2, kt_sqt e h3⟩
  | 3, v, q, h => h
  | 4, v, q, h => h
  | 5, v, q, h => h
  | 6, v, q, h => h
  | 7, v, q, h => h
  | 8, v, q, h => h
  | _ + 9, v, q, ⟨b, h1, h2⟩ => ⟨b, h1, kt_sqt e h2⟩
def aof (i : Nat) : Dt → List Ad := if i < 8 then ad else lv
def start (T : Dt) (p : Ad) (i : Nat) : Nat := if i < 8 then T.idx p else T.low p
def Grown (K : PySem.W.Frag) (H : Hp) (T : Dt) (l : Nat → List Ad) (S S' : Nat → List V) : Prop := ∀ i, i < 10 → ∃ R, S' i = S i ++ R ∧ Paired (Cell K H T i) R (l i)
def spGrow (K : PySem.W.Frag) (C : Addr) (n : Nat) : Sp := fun vs H Q _ => ∃ (a b ab dx : Addr) (bs : List V) (T u : Dt) (p : Ad) (fv : V) (L : Nat → Addr) (S : Nat → List V),
  vs = [.ref a, .ref b, .ref ab, .int (sideI p)] ∧ TreeAt C H a dx fv L S ∧ SqT K H b bs ∧ ShF K H bs u ∧ SqT K H ab (pth T p p.length) ∧ T.sub p = some u ∧ T.nodes ≤ 1000 ∧ u.ht < n ∧ p.length + n ≤ 1000 ∧
  (∀ i, i < 10 → (S i).length = start T p i) ∧
  ∀ H' S', TreeAt C H' a dx fv L S' → Keep L H H' → Grown K H' T (fun i => ((aof i) u).map (p ++ ·)) S S' → Q .non H'
theorem rCatA_all {K : PySem.W.Frag} {H : Hp} {a b : Addr} {xs ys : List V} {Q : VK} (ha : SqT K H a xs) (hb : SqT K H b ys) (hz : xs.length + ys.length ≤ sizeLine) (h : ∀ tp H2, Same H H2 → SqT K H2 tp (xs ++ ys) → Q (.ref tp) H2) : rCatA K (.ref a) (.ref b) H Q := by
  refine ⟨a, b, xs, ys, rfl, rfl, ha, hb, hz, fun e => ?_, fun _ e => ?_, fun _ _ p hp => ?_⟩
  · subst e
    exact h b H (fun _ _ z => z) hb
  · subst e
    refine h a H (fun _ _ z => z) ?_
    rw [List.append_nil]
    exact ha
  · exact h p _ (same_new hp) (SqT.of upd_same)
theorem pe_conv {X : Cx} {e : Expr} {t t' : TE} (h : PE X e t) (c : ∀ σ H Q, t' σ H Q → t σ H Q) : PE X e t' := ⟨fun pins s σ H Q I k => h.run pins s σ H Q I (c σ H Q k)⟩
theorem ps_conv {X : Cx} {e : Stmt} {t t' : TS} (h : PS X e t) (c : ∀ D σ H, t' D σ H → t D σ H) : PS X e t' := ⟨fun pins s σ H D I k => h.run pins s σ H D I (c D σ H k)⟩
theorem ixN_nat {n j : Nat} (h : j < n) : ixN n (j : Int) = some j := by
  unfold ixN
  rw [if_pos (by omega), if_pos (by omega)]
  rfl
theorem atI_last {l : List V} {v : V} : atI (l ++ [v]) (-1) = some v := by
  unfold atI ixN
  rw [if_neg (by decide), if_pos (by rw [List.length_append]; show -((l.length + 1 : Nat) : Int) ≤ -1; omega)]
  show (l ++ [v])[(-1 + ((l ++ [v]).length : Int)).toNat]? = some v
  have : (-1 + ((l ++ [v]).length : Int)).toNat = l.length := by rw [List.length_append, List.length_singleton]; omega
  rw [this]
  simp
/-- t[-1] if t else None -/
def tLast (K : PySem.W.Frag) (i : Nat) : TE := fun σ H Q => ∃ ab xs, σ[i]? = some (some (.ref ab)) ∧ SqT K H ab xs ∧ Q (xs.getLast?.getD .non) H
/-- if not bough: self.leaves.append(node); self.paths.append(path) -/
def tLeafS (K : PySem.W.Frag) (C : Addr) : TS := fun D σ H => ∃ a dx b bs fv L S tp node, σ[0]? = some (some (.ref a)) ∧ σ[1]? = some (some (.ref b)) ∧ σ[4]? = some (some (.int node)) ∧ σ[5]? = some (some (.ref tp)) ∧ TreeAt C H a dx fv L S ∧ SqT K H b bs ∧ (S 8).length < sizeLine ∧ (S 9).length < sizeLine ∧
  ∀ H', TreeAt C H' a dx fv L (if bs = [] then st (st S 8 (S 8 ++ [.int node])) 9 (S 9 ++ [.ref tp]) else S) → Keep L H H' → D.nx σ H'
theorem len_lt_nodes : ∀ t : Dt, t.len < t.nodes
  | x => Nat.lt_succ_self 0
  | o => Nat.lt_succ_self 0
  | c k r => by
    have h1 := len_lt_nodes r
    have h2 := k.nodes_pos
    show r.len + 1 < k.nodes + r.nodes
    omega
theorem sideI_snoc (p : Ad) (i : Nat) : sideI (p ++ [i]) = (i : Nat) := by
  unfold sideI
  rw [List.getLast?_append]
  rfl
theorem pth_snoc (T : Dt) (p : Ad) (i : Nat) : pth T (p ++ [i]) (p ++ [i]).length = pth T p (p.length + 1) := by
  unfold pth
  rw [List.length_append, List.length_singleton]
  refine List.map_congr_left fun k hk => ?_
  have : k ≤ p.length := by
    have := List.mem_range.mp hk
    omega
  rw [List.take_append_of_le_length this]
theorem pth_last (T : Dt) (p : Ad) : (pth T p p.length).getLast?.getD .non = parV T p := by
  unfold parV pth
  rcases List.eq_nil_or_concat p with rfl | ⟨l, i, rfl⟩
  · rfl
  · rw [List.concat_eq_append, if_neg (by simp), List.length_append, List.length_singleton, List.range_succ, List.map_append, List.getLast?_append, List.dropLast_concat]
    simp
theorem rowsN_succ (f : Dt → List Ad) {u k : Dt} {i : Nat} (h : u.kids[i]? = some k) (p : Ad) : (rowsN f u (i + 1)).map (p ++ ·) = (rowsN f u i).map (p ++ ·) ++ (f k).map ((p ++ [i]) ++ ·) := by
  show (rowsN f u i ++ match u.kids[i]? with | some k => (f k).map (List.cons i) | none => []).map (p ++ ·) = _
  rw [h, List.map_append, List.map_map]
  congr 1
  refine List.map_congr_left fun q _ => ?_
  simp
theorem set_mid (l r : List V) (x y : V) (n : Nat) (h : l.length = n) : ((l ++ [x]) ++ r).set n y = l ++ (y :: r) := by
  subst h
  rw [List.append_assoc]
  rw [List.set_append_right _ _ (Nat.le_refl _)]
  simp
/-- what the walks ask of the class -/
structure TCl (K : PySem.W.Frag) (mg : Str → Option Value) (C fG : Addr) : Prop where
  cl : Cls K C
  mG : Meth K C "_grow" fG
  nF : NoAttr K C "form"
  n0 : NoAttr K C "boughs"
  n1 : NoAttr K C "parents"
  n2 : NoAttr K C "kids"
  n3 : NoAttr K C "depths"
  n4 : NoAttr K C "sides"
  n5 : NoAttr K C "lows"
  n6 : NoAttr K C "highs"
  n7 : NoAttr K C "ends"
  n8 : NoAttr K C "leaves"
  n9 : NoAttr K C "paths"
section
variable {P : Program} {w : World} {K : PySem.W.Frag} {mg : Str → Option Value} {base : Heap}
theorem ok_grow {C f : Addr} {fd : FuncData} {n : Nat} (F : Fun K "_grow" "ShapeTree._grow" s_ShapeTree_grow f fd) (b : Binds K fd ["self", "bough", "above", "side"] []) (G : FnOk P w K mg base CX0 n f fd ["self", "bough", "above", "side"] (spGrow K C n))
    (T : Txt K mg) (TC : TCl K mg C f) : FnOk P w K mg base CX0 (n + 1) f fd ["self", "bough", "above", "side"] (spGrow K C (n + 1)) := by
  refine F.ok sc_ShapeTree_grow (fun vs H Q E h => ?_) (fun cdv A outer s H vs Q E hr h => ?_)
  · obtain ⟨a, b, ab, dx, bs, T, u, p, fv, L, S, rfl, _⟩ := h
    rfl
  obtain ⟨a, b', ab, dx, bs, D, u, p, fv, L, S, rfl, TA, hb, hS, hab, hsub, hD, hht, hpl, hst, q⟩ := h
  refine ⟨_, pss_cons (ps_set (i := 4) sc_ShapeTree_grow.nd rfl (.inl rfl) (pe_callB call_len_seq (by rfl) T.len PySem.boot_len (pa_cons (pe_fld (pv 0) rfl) pa_nil)))
    (pss_cons (ps_set (i := 5) sc_ShapeTree_grow.nd rfl (.inl rfl) (pe_op op_catA (pv 2) (pe_tup (pa_cons (pv 4) pa_nil))))
    (pss_cons (ps_expr (pe_bm PySem.F.plainAttrs_list PySem.F.slot_list_append PySem.F.type_list_append mt_append (pe_fld (pv 0) rfl) (pa_cons (pv 1) pa_nil)))
    (pss_cons (ps_expr (pe_bm PySem.F.plainAttrs_list PySem.F.slot_list_append PySem.F.type_list_append mt_append (pe_fld (pv 0) rfl) (pa_cons (pe_conv (t' := tLast K 2) (pe_ifExp (pt_truth (pv 2) (by intro _; rfl)) (pe_ix ix_tup (pv 2) (pe_un un_neg pe_int) (fun _ _ => rfl)) pe_non) (by
      rintro σ H Q ⟨ab, xs, h1, h2, q⟩
      refine ⟨_, h1, !xs.isEmpty, .inr (.inl ⟨xs, h2, rfl⟩), ?_⟩
      rcases List.eq_nil_or_concat xs with rfl | ⟨l, v, rfl⟩
      · exact iteF q
      · rw [show (!(l.concat v).isEmpty) = true by simp]
        rw [List.concat_eq_append] at h2 q
        refine iteT ?_
        refine ⟨_, h1, _, rfl, _, _, _, _, rfl, rfl, h2, atI_last, ?_⟩
        rw [List.getLast?_append] at q
        exact q)) pa_nil)))
    (pss_cons (ps_expr (pe_bm PySem.F.plainAttrs_list PySem.F.slot_list_append PySem.F.type_list_append mt_append (pe_fld (pv 0) rfl) (pa_cons (pe_callB call_len_seq (by rfl) T.len PySem.boot_len (pa_cons (pv 2) pa_nil)) pa_nil)))
    (pss_cons (ps_expr (pe_bm PySem.F.plainAttrs_list PySem.F.slot_list_append PySem.F.type_list_append mt_append (pe_fld (pv 0) rfl) (pa_cons (pv 3) pa_nil)))
    (pss_cons (ps_expr (pe_bm PySem.F.plainAttrs_list PySem.F.slot_list_append PySem.F.type_list_append mt_append (pe_fld (pv 0) rfl) (pa_cons (pe_callB call_len_seq (by rfl) T.len PySem.boot_len (pa_cons (pe_fld (pv 0) rfl) pa_nil)) pa_nil)))
    (pss_cons (ps_expr (pe_bm PySem.F.plainAttrs_list PySem.F.slot_list_append PySem.F.type_list_append mt_append (pe_fld (pv 0) rfl) (pa_cons (pe_tup pa_nil) pa_nil)))
    (pss_cons (ps_expr (pe_bm PySem.F.plainAttrs_list PySem.F.slot_list_append PySem.F.type_list_append mt_append (pe_fld (pv 0) rfl) (pa_cons pe_int pa_nil)))
    (pss_cons (ps_expr (pe_bm PySem.F.plainAttrs_list PySem.F.slot_list_append PySem.F.type_list_append mt_append (pe_fld (pv 0) rfl) (pa_cons pe_int pa_nil)))
    (pss_cons (ps_conv (t' := tLeafS K C) (ps_if (pt_not (pt_truth (pv 1) (by intro _; rfl)))
      (pss_cons (ps_expr (pe_bm PySem.F.plainAttrs_list PySem.F.slot_list_append PySem.F.type_list_append mt_append (pe_fld (pv 0) rfl) (pa_cons (pv 4) pa_nil)))
      (pss_one (ps_expr (pe_bm PySem.F.plainAttrs_list PySem.F.slot_list_append PySem.F.type_list_append mt_append (pe_fld (pv 0) rfl) (pa_cons (pv 5) pa_nil))))) pss_nil) (by
      rintro D σ H ⟨a, dx, b, bs, fv, L, S, tp, node, e0, e1, e4, e5, TA, hb, z8, z9, q⟩
      refine ⟨_, e1, !bs.isEmpty, .inr (.inl ⟨bs, hb, rfl⟩), ?_⟩
      cases bs with
      | nil =>
        refine iteT ?_
        refine ⟨_, e0, a, C, dx, _, _, rfl, TA.ob, TC.cl, TC.n8, stF_8 _ _, .inl ⟨rfl, _, SqL.of (TA.ls 8 (by decide))⟩, _, e4, L 8, _, _, rfl, rfl, TA.ls 8 (by decide), z8, ?_⟩
        have TA1 := TA.put (i := 8) (by decide) (S 8 ++ [.int node])
        refine ⟨_, e0, a, C, dx, _, _, rfl, TA1.ob, TC.cl, TC.n9, stF_9 _ _, .inl ⟨rfl, _, SqL.of (TA1.ls 9 (by decide))⟩, _, e5, L 9, _, _, rfl, rfl, TA1.ls 9 (by decide), z9, ?_⟩
        refine q _ ?_ (((Keep.refl L H).put (i := 8) (by decide) _).put (i := 9) (by decide) _)
        rw [if_pos rfl]
        exact TA1.put (i := 9) (by decide) (S 9 ++ [.ref tp])
      | cons x r =>
        refine iteF ?_
        exact q _ (by rw [if_neg (by simp)]; exact TA) (Keep.refl L H)))
    (pss_cons (ps_set (i := 6) sc_ShapeTree_grow.nd rfl (.inl rfl) (pe_lst pa_nil))
    (pss_cons (ps_for PassesOwn.never rfl (pi_enumT (by rfl) T.enumerate (pa_cons (pv 1) pa_nil)) (pg_tup rfl (pgs_cons (pg_name (i := 7) sc_ShapeTree_grow.nd rfl (.inl rfl)) (pgs_cons (pg_name (i := 8) sc_ShapeTree_grow.nd rfl (.inl rfl)) pgs_nil)))
      (pss_cons (ps_expr (pe_bm PySem.F.plainAttrs_list PySem.F.slot_list_append PySem.F.type_list_append mt_append (pv 6) (pa_cons (pe_callB call_len_seq (by rfl) T.len PySem.boot_len (pa_cons (pe_fld (pv 0) rfl) pa_nil)) pa_nil)))
      (pss_one (ps_expr (pe_meth (pv 0) TC.cl TC.mG G hr b .nil pass0 (pa_cons (pv 8) (pa_cons (pv 5) (pa_cons (pv 7) pa_nil))))))))
    (pss_cons (ps_asg (pe_callTy call_tuple_of (by rfl) T.tuple PyProof.Rows.boot_tuple (pa_cons (pv 6) pa_nil)) (pg_sub (pe_fld (pv 0) rfl) (pv 4) set_list))
    (pss_cons (ps_asg (pe_callB call_len_seq (by rfl) T.len PySem.boot_len (pa_cons (pe_fld (pv 0) rfl) pa_nil)) (pg_sub (pe_fld (pv 0) rfl) (pv 4) set_list))
    (pss_one (ps_asg (pe_callB call_len_seq (by rfl) T.len PySem.boot_len (pa_cons (pe_fld (pv 0) rfl) pa_nil)) (pg_sub (pe_fld (pv 0) rfl) (pv 4) set_list))))))))))))))))), ?_⟩
  have hrec := sub_app D p u hsub
  have hidx := idx_lt hsub
  have hlow := low_le hsub
  have hun := u.nodes_pos
  have hlf : D.lf ≤ D.nodes := by
    rw [← ad_len]
    exact List.length_filter_le _ _
  have hsm : ∀ i, i < 10 → (S i).length ≤ 1000 := fun i hi => by
    rw [hst i hi]
    unfold start
    split <;> omega
  have sz : ∀ i, i < 10 → (S i).length < sizeLine := fun i hi => small1000 (hsm i hi)
  have hl0 : (S 0).length = D.idx p := hst 0 (by decide)
  -- node = len(self.boughs)
  refine ⟨_, rfl, a, C, dx, _, _, rfl, TA.ob, TC.cl, TC.n0, stF_0 _ _, L 0, _, rfl, .inl (SqL.of (TA.ls 0 (by decide))), ?_⟩
  rw [hl0]
  -- path = above + (node,)
  refine ⟨_, rfl, _, rfl, (by show 1 ≤ sizeLine; decide), fun t1 ht1 => ?_⟩
  have s1 : Same H (upd H t1 (.tup [.int (D.idx p : Nat)])) := same_new ht1
  have epl : (pth D p p.length).length = p.length := by unfold pth; rw [List.length_map, List.length_range]
  have epth : pth D p p.length ++ [V.int (D.idx p : Nat)] = pth D p (p.length + 1) := by
    unfold pth
    rw [List.range_succ, List.map_append, List.map_singleton, List.take_length]
  refine rCatA_all (same_sqt s1 hab) (SqT.of upd_same) (Nat.le_of_lt (small1000 (by rw [epl, List.length_singleton]; omega))) fun tp H2 s2' htp => ?_
  rw [epth] at htp
  have s2 : Same H H2 := s1.trans s2'
  have TA2 := TA.same s2
  have K2 : Keep L H2 H2 := Keep.refl L H2
  have hab2 := same_sqt s2 hab
  have hb2 := same_sqt s2 hb
  have hS2 : ShF K H2 bs u := hS.keep (KeepT.of_same s2)
  -- self.boughs.append(bough)
  refine ⟨_, rfl, a, C, dx, _, _, rfl, TA2.ob, TC.cl, TC.n0, stF_0 _ _, .inl ⟨rfl, _, SqL.of (TA2.ls 0 (by decide))⟩, _, rfl, L 0, _, _, rfl, rfl, TA2.ls 0 (by decide), sz 0 (by decide), ?_⟩
  have TA3 := TA2.put (i := 0) (by decide) (S 0 ++ [.ref b'])
  have K3 := K2.put (i := 0) (by decide) (.lst (S 0 ++ [.ref b']))
  revert TA3 K3
  generalize upd H2 (L 0) (.lst (S 0 ++ [.ref b'])) = H3
  intro TA3 K3
  have kt3 := kt_sqt (TA2.keepT K3) hab2
  -- parents
  have l3 : H3 (L 1) = some (.lst (S 1)) := TA3.ls 1 (by decide)
  refine ⟨_, rfl, a, C, dx, _, _, rfl, TA3.ob, TC.cl, TC.n1, stF_1 _ _, .inl ⟨rfl, _, SqL.of l3⟩, ab, _, rfl, kt3, L 1, _, _, rfl, rfl, l3, sz 1 (by decide), ?_⟩
  have TA4 := TA3.put (i := 1) (by decide) (S 1 ++ [(pth D p p.length).getLast?.getD .non])
  have K4 := K3.put (i := 1) (by decide) (.lst (S 1 ++ [(pth D p p.length).getLast?.getD .non]))
  revert TA4 K4
  generalize upd H3 (L 1) (.lst (S 1 ++ [(pth D p p.length).getLast?.getD .non])) = H4
  intro TA4 K4
  have kt4 := kt_sqt (TA2.keepT K4) hab2
  -- depths
  have l4 : H4 (L 3) = some (.lst (S 3)) := TA4.ls 3 (by decide)
  refine ⟨_, rfl, a, C, dx, _, _, rfl, TA4.ob, TC.cl, TC.n3, stF_3 _ _, .inl ⟨rfl, _, SqL.of l4⟩, _, rfl, ab, _, rfl, .inr kt4, L 3, _, _, rfl, rfl, l4, sz 3 (by decide), ?_⟩
  have TA5 := TA4.put (i := 3) (by decide) (S 3 ++ [.int ((pth D p p.length).length : Nat)])
  have K5 := K4.put (i := 3) (by decide) (.lst (S 3 ++ [.int ((pth D p p.length).length : Nat)]))
  revert TA5 K5
  generalize upd H4 (L 3) (.lst (S 3 ++ [.int ((pth D p p.length).length : Nat)])) = H5
  intro TA5 K5
  -- sides
  have l5 : H5 (L 4) = some (.lst (S 4)) := TA5.ls 4 (by decide)
  refine ⟨_, rfl, a, C, dx, _, _, rfl, TA5.ob, TC.cl, TC.n4, stF_4 _ _, .inl ⟨rfl, _, SqL.of l5⟩, _, rfl, L 4, _, _, rfl, rfl, l5, sz 4 (by decide), ?_⟩
  have TA6 := TA5.put (i := 4) (by decide) (S 4 ++ [.int (sideI p)])
  have K6 := K5.put (i := 4) (by decide) (.lst (S 4 ++ [.int (sideI p)]))
  revert TA6 K6
  generalize upd H5 (L 4) (.lst (S 4 ++ [.int (sideI p)])) = H6
  intro TA6 K6
  have m6 : H6 (L 8) = some (.lst (S 8)) := TA6.ls 8 (by decide)
  -- lows
  have l6 : H6 (L 5) = some (.lst (S 5)) := TA6.ls 5 (by decide)
  refine ⟨_, rfl, a, C, dx, _, _, rfl, TA6.ob, TC.cl, TC.n5, stF_5 _ _, .inl ⟨rfl, _, SqL.of l6⟩, _, rfl, a, C, dx, _, _, rfl, TA6.ob, TC.cl, TC.n8, stF_8 _ _, L 8, _, rfl, .inl (SqL.of m6), L 5, _, _, rfl, rfl, l6, sz 5 (by decide), ?_⟩
  have TA7 := TA6.put (i := 5) (by decide) (S 5 ++ [.int ((S 8).length : Nat)])
  have K7 := K6.put (i := 5) (by decide) (.lst (S 5 ++ [.int ((S 8).length : Nat)]))
  revert TA7 K7
  generalize upd H6 (L 5) (.lst (S 5 ++ [.int ((S 8).length : Nat)])) = H7
  intro TA7 K7
  -- kids
  have l7 : H7 (L 2) = some (.lst (S 2)) := TA7.ls 2 (by decide)
  refine ⟨_, rfl, a, C, dx, _, _, rfl, TA7.ob, TC.cl, TC.n2, stF_2 _ _, .inl ⟨rfl, _, SqL.of l7⟩, (by show 0 ≤ sizeLine; decide), fun t2 ht2 => ?_⟩
  have s7 : Same H7 (upd H7 t2 (.tup [])) := same_new ht2
  have TA7' := TA7.same s7
  have K7' := K7.same s7
  have l7' : (upd H7 t2 (.tup [])) (L 2) = some (.lst (S 2)) := s7 _ _ l7
  refine ⟨L 2, _, _, rfl, rfl, l7', sz 2 (by decide), ?_⟩
  have TA8 := TA7'.put (i := 2) (by decide) (S 2 ++ [.ref t2])
  have K8 := K7'.put (i := 2) (by decide) (.lst (S 2 ++ [.ref t2]))
  revert TA8 K8
  generalize upd (upd H7 t2 (.tup [])) (L 2) (.lst (S 2 ++ [.ref t2])) = H8
  intro TA8 K8
  -- highs
  have l8 : H8 (L 6) = some (.lst (S 6)) := TA8.ls 6 (by decide)
  refine ⟨_, rfl, a, C, dx, _, _, rfl, TA8.ob, TC.cl, TC.n6, stF_6 _ _, .inl ⟨rfl, _, SqL.of l8⟩, L 6, _, _, rfl, rfl, l8, sz 6 (by decide), ?_⟩
  have TA9 := TA8.put (i := 6) (by decide) (S 6 ++ [.int 0])
  have K9 := K8.put (i := 6) (by decide) (.lst (S 6 ++ [.int 0]))
  revert TA9 K9
  generalize upd H8 (L 6) (.lst (S 6 ++ [.int 0])) = H9
  intro TA9 K9
  -- ends
  have l9 : H9 (L 7) = some (.lst (S 7)) := TA9.ls 7 (by decide)
  refine ⟨_, rfl, a, C, dx, _, _, rfl, TA9.ob, TC.cl, TC.n7, stF_7 _ _, .inl ⟨rfl, _, SqL.of l9⟩, L 7, _, _, rfl, rfl, l9, sz 7 (by decide), ?_⟩
  have TA10 := TA9.put (i := 7) (by decide) (S 7 ++ [.int 0])
  have K10 := K9.put (i := 7) (by decide) (.lst (S 7 ++ [.int 0]))
  revert TA10 K10
  generalize upd H9 (L 7) (.lst (S 7 ++ [.int 0])) = H10
  intro TA10 K10
  -- if not bough
  have hb10 : SqT K H10 b' bs := kt_sqt (TA2.keepT K10) hb2
  refine ⟨a, dx, b', bs, fv, L, _, tp, _, rfl, rfl, rfl, rfl, TA10, hb10, sz 8 (by decide), sz 9 (by decide), fun H11 TA11 K11' => ?_⟩
  have hul : bs.length = u.len := hS.len
  have ex : ∃ S11 : Nat → List V, TreeAt C H11 a dx fv L S11 ∧ S11 0 = S 0 ++ [.ref b'] ∧ S11 1 = S 1 ++ [parV D p] ∧ (∃ o, S11 2 = S 2 ++ [o]) ∧ S11 3 = S 3 ++ [.int (p.length : Nat)] ∧ S11 4 = S 4 ++ [.int (sideI p)] ∧ S11 5 = S 5 ++ [.int (D.low p : Nat)] ∧
      (∃ o, S11 6 = S 6 ++ [o]) ∧ (∃ o, S11 7 = S 7 ++ [o]) ∧ S11 8 = (if bs = [] then S 8 ++ [.int (D.idx p : Nat)] else S 8) ∧ S11 9 = (if bs = [] then S 9 ++ [.ref tp] else S 9) := by
    refine ⟨_, TA11, ?_⟩
    rw [pth_last, epl, hst 8 (by decide)]
    by_cases e : bs = []
    · simp only [if_pos e]
      exact ⟨rfl, rfl, ⟨_, rfl⟩, rfl, rfl, rfl, ⟨_, rfl⟩, ⟨_, rfl⟩, rfl, rfl⟩
    · simp only [if_neg e]
      exact ⟨rfl, rfl, ⟨_, rfl⟩, rfl, rfl, rfl, ⟨_, rfl⟩, ⟨_, rfl⟩, rfl, rfl⟩
  clear TA11
  obtain ⟨S11, TA11, q0, q1, ⟨o2, q2⟩, q3, q4, q5, ⟨o6, q6⟩, ⟨o7, q7⟩, q8, q9⟩ := ex
  have K11 : Keep L H2 H11 := K10.trans K11'
  have hb11 : SqT K H11 b' bs := kt_sqt (TA2.keepT K11) hb2
  have hS11 : ShF K H11 bs u := hS2.keep (TA2.keepT K11)
  have htp11 : SqT K H11 tp (pth D p (p.length + 1)) := kt_sqt (TA2.keepT K11) htp
  have KH : Keep L H H11 := fun y o h n => K11 y o (s2 y o h) n
  clear TA3 TA4 TA5 TA6 TA7 TA7' TA8 TA9 TA10 K3 K4 K5 K6 K7 K7' K8 K9 K10 K11'
  have lS : ∀ k, k < 8 → (S11 k).length = D.idx p + 1 := by
    have e : ∀ k, k < 8 → (S k).length = D.idx p := fun k hk => by
      rw [hst k (by omega)]
      unfold start
      rw [if_pos hk]
    intro k hk
    match k, hk with
    | 0, h => rw [q0, List.length_append, e 0 h]; rfl
    | 1, h => rw [q1, List.length_append, e 1 h]; rfl
    | 2, h => rw [q2, List.length_append, e 2 h]; rfl
    | 3, h => rw [q3, List.length_append, e 3 h]; rfl
    | 4, h => rw [q4, List.length_append, e 4 h]; rfl
    | 5, h => rw [q5, List.length_append, e 5 h]; rfl
    | 6, h => rw [q6, List.length_append, e 6 h]; rfl
    | 7, h => rw [q7, List.length_append, e 7 h]; rfl
  have lS8 : ∀ k, k = 8 ∨ k = 9 → (S11 k).length = D.low p + (if bs = [] then 1 else 0) := by
    rintro k (rfl | rfl)
    · rw [q8]
      have e := hst 8 (by decide)
      unfold start at e
      rw [if_neg (by decide)] at e
      split
      · rw [List.length_append, e]; rfl
      · exact e
    · rw [q9]
      have e := hst 9 (by decide)
      unfold start at e
      rw [if_neg (by decide)] at e
      split
      · rw [List.length_append, e]; rfl
      · exact e
  -- kids = []; for place, kid in enumerate(bough)
  refine ⟨(by show 0 ≤ sizeLine; decide), fun lk hlk => ?_⟩
  have s12 : Same H11 (upd H11 lk (.lst [])) := same_new hlk
  have lkL : ∀ i, i < 10 → lk ≠ L i := fun i hi e => by
    rw [e, TA11.ls i hi] at hlk
    exact nomatch hlk
  have lka : lk ≠ a := fun e => by
    rw [e, TA11.ob] at hlk
    exact nomatch hlk
  refine ⟨_, rfl, b', bs, rfl, same_sqt s12 hb11, for_it walk_enumT (fun i σ H' => ∃ (S' : Nat → List V) (o7 o8 : Option V), σ = [some (.ref a), some (.ref b'), some (.ref ab), some (.int (sideI p)), some (.int (D.idx p : Nat)), some (.ref tp), some (.ref lk), o7, o8] ∧
    TreeAt C H' a dx fv L S' ∧ Keep L H11 H' ∧ H' lk = some (.lst ((List.range i).map fun j => V.int (D.idx (p ++ [j]) : Nat))) ∧ Grown K H' D (fun k => (rowsN (aof k) u i).map (p ++ ·)) S11 S')
    ⟨S11, none, none, rfl, TA11.same s12, fun y o h _ => s12 _ _ h, upd_same, fun k _ => ⟨[], (List.append_nil _).symm, .nil⟩⟩ (fun i σ H' _ ⟨_, _, _, _, _, k, _⟩ => kt_sqt (TA11.keepT k) hb11) ?_ ?_⟩
  · rintro i y σ H' H'' hi ⟨S', o7, o8, rfl, TA', K', hlk', G'⟩ hY
    obtain ⟨T0, x', y', rfl, hT0, rfl, hx', hy'⟩ := hY
    obtain rfl : V.int (i : Nat) = x' := Option.some.inj hx'
    obtain ⟨kd, hkd, bk, ks, rfl, hsk, hFk⟩ := hS11.at i y' hy'
    have sT : Same H' (upd H' T0 (.tup [.int (i : Nat), .ref bk])) := same_new hT0
    have hiu : i < u.len := by omega
    have eidx := idx_rows u i hiu
    have elow := low_rows hsub i hiu
    obtain ⟨er1, er2⟩ := hrec [i]
    have hsub' : D.sub (p ++ [i]) = some kd := by
      rw [er1, sub_one]
      exact hkd
    have hbs : bs ≠ [] := fun e => by
      rw [e] at hi
      exact absurd hi (Nat.not_lt_zero _)
    have ln : ∀ k, k < 10 → (S' k).length = start D (p ++ [i]) k := by
      intro k hk
      obtain ⟨R, eR, pR⟩ := G' k hk
      have e1 := Paired.len pR
      rw [List.length_map] at e1
      rw [eR, List.length_append, e1]
      unfold start
      by_cases h8 : k < 8
      · rw [lS k h8, if_pos h8, er2, eidx]
        unfold aof
        rw [if_pos h8]
        omega
      · rw [lS8 k (by omega), if_neg h8, if_neg hbs, elow]
        unfold aof
        rw [if_neg h8]
        omega
    have l0 : (S' 0).length = D.idx (p ++ [i]) := ln 0 (by decide)
    have TAT := TA'.same sT
    -- kids.append(len(self.boughs))
    have hlkT := sT _ _ hlk'
    have hiN : i < D.nodes := by
      have := len_lt_nodes u
      omega
    refine ⟨T0, _, rfl, SqT.of upd_same, rfl, _, _, rfl, _, _, rfl, rfl, ?_⟩
    refine ⟨_, rfl, .inl ⟨rfl, _, SqL.of hlkT⟩, _, rfl, a, C, dx, _, _, rfl, TAT.ob, TC.cl, TC.n0, stF_0 _ _, L 0, _, rfl, .inl (SqL.of (TAT.ls 0 (by decide))), lk, _, _, rfl, rfl, hlkT, small1000 (by rw [List.length_map, List.length_range]; omega), ?_⟩
    rw [l0]
    have eks : ((List.range i).map fun j => V.int (D.idx (p ++ [j]) : Nat)) ++ [V.int (D.idx (p ++ [i]) : Nat)] = (List.range (i + 1)).map fun j => V.int (D.idx (p ++ [j]) : Nat) := by
      rw [List.range_succ, List.map_append, List.map_singleton]
    rw [eks]
    have TAU : TreeAt C (upd (upd H' T0 (.tup [.int (i : Nat), .ref bk])) lk (.lst ((List.range (i + 1)).map fun j => V.int (D.idx (p ++ [j]) : Nat)))) a dx fv L S' :=
      ⟨by rw [upd_ne (Ne.symm lka)]; exact TAT.ob, fun j hj => by rw [upd_ne (Ne.symm (lkL j hj))]; exact TAT.ls j hj, TAT.inj⟩
    have KU : Keep L H11 (upd (upd H' T0 (.tup [.int (i : Nat), .ref bk])) lk (.lst ((List.range (i + 1)).map fun j => V.int (D.idx (p ++ [j]) : Nat)))) := fun y o h n => by
      rw [upd_ne (ne_of_none h hlk)]
      exact sT _ _ (K' y o h n)
    have lkU : (upd (upd H' T0 (.tup [.int (i : Nat), .ref bk])) lk (.lst ((List.range (i + 1)).map fun j => V.int (D.idx (p ++ [j]) : Nat)))) lk = _ := upd_same
    have tU : KeepT H' (upd (upd H' T0 (.tup [.int (i : Nat), .ref bk])) lk (.lst ((List.range (i + 1)).map fun j => V.int (D.idx (p ++ [j]) : Nat)))) := fun y xs =>
      ⟨fun h => by rw [upd_ne (fun e => by rw [e, hlk'] at h; exact HO.noConfusion (Option.some.inj h))]; exact sT _ _ h, fun o h => by rw [upd_ne (fun e => by rw [e, hlk'] at h; exact HO.noConfusion (Option.some.inj h))]; exact sT _ _ h⟩
    revert TAU KU lkU tU
    generalize upd (upd H' T0 (.tup [.int (i : Nat), .ref bk])) lk (.lst ((List.range (i + 1)).map fun j => V.int (D.idx (p ++ [j]) : Nat))) = HU
    intro TAU KU lkU tU
    -- self._grow(kid, path, place)
    have kU := TA11.keepT KU
    refine ⟨_, rfl, a, dx, _, rfl, TAU.ob, stF_grow _ _, _, rfl, _, rfl, _, rfl, a, bk, tp, dx, ks, D, kd, p ++ [i], fv, L, S', congrArg (fun z => [V.ref a, V.ref bk, V.ref tp, V.int z]) (sideI_snoc p i).symm, TAU, kt_sqt kU hsk, hFk.keep kU, by rw [pth_snoc]; exact kt_sqt kU htp11, hsub', hD, ?_, ?_, ln, fun H3 S3 TA3 K3 G3 => ?_⟩
    · have := ht_kid u i kd hkd
      omega
    · rw [List.length_append, List.length_singleton]
      omega
    refine ⟨S3, _, _, rfl, TA3, KU.trans K3, K3 _ _ lkU lkL, fun k hk => ?_⟩
    obtain ⟨R1, eR1, pR1⟩ := G' k hk
    obtain ⟨R2, eR2, pR2⟩ := G3 k hk
    refine ⟨R1 ++ R2, by rw [eR2, eR1, List.append_assoc], ?_⟩
    show Paired (Cell K H3 D k) (R1 ++ R2) ((rowsN (aof k) u (i + 1)).map fun x => p ++ x)
    rw [rowsN_succ _ hkd]
    exact Paired.app (Paired.mono (fun v q c => Cell.keep (tU.trans (TAU.keepT K3)) k v q c) pR1) pR2
  · rintro σ H' ⟨S', o7, o8, rfl, TA', K', hlk', G'⟩
    rw [hul] at hlk' G'
    have kt' := TA11.keepT K'
    have hn8 : ∀ k, k < 8 → (S' k).length = D.idx p + u.nodes := by
      intro k hk
      obtain ⟨R, eR, pR⟩ := G' k (by omega)
      have e1 := Paired.len pR
      rw [List.length_map] at e1
      have e2 := ad_len u
      rw [ad_rows, List.length_cons] at e2
      rw [eR, List.length_append, e1, lS k hk]
      unfold aof
      rw [if_pos hk]
      omega
    have hq8 : (S' 8).length = D.low p + u.lf := by
      obtain ⟨R, eR, pR⟩ := G' 8 (by decide)
      have e1 := Paired.len pR
      rw [List.length_map] at e1
      rw [eR, List.length_append, e1, lS8 8 (.inl rfl), show aof 8 = lv from rfl]
      by_cases e : bs = []
      · rw [if_pos e]
        have e3 : u.len = 0 := by rw [← hul, e]; rfl
        rw [e3]
        unfold lf
        rw [(lv_leaf e3).1]
        rfl
      · rw [if_neg e]
        have e3 : u.len ≠ 0 := fun z => e (List.eq_nil_of_length_eq_zero (by omega))
        unfold lf
        rw [← lv_rows u e3]
        rfl
    have jn : D.idx p < D.idx p + u.nodes := by omega
    -- self.kids[node] = tuple(kids)
    refine ⟨_, rfl, lk, _, rfl, .inl ⟨SqL.of hlk', fun t3 ht3 => ?_⟩⟩
    have sA : Same H' (upd H' t3 (.tup ((List.range u.len).map fun j => V.int (D.idx (p ++ [j]) : Nat)))) := same_new ht3
    have TAA := TA'.same sA
    have mA := TAA.ls 2 (by decide)
    refine ⟨_, rfl, a, C, dx, _, _, rfl, TAA.ob, TC.cl, TC.n2, stF_2 _ _, _, rfl, L 2, _, _, D.idx p, rfl, rfl, mA, ixN_nat (by rw [hn8 2 (by decide)]; exact jn), ?_⟩
    have TAB := TAA.put (i := 2) (by decide) ((S' 2).set (D.idx p) (.ref t3))
    have KB := ((Keep.refl L H').same sA).put (i := 2) (by decide) (.lst ((S' 2).set (D.idx p) (.ref t3)))
    have hB3 : (upd (upd H' t3 (.tup ((List.range u.len).map fun j => V.int (D.idx (p ++ [j]) : Nat)))) (L 2) (.lst ((S' 2).set (D.idx p) (.ref t3)))) t3 = some (.tup (kidV D p u)) := by
      rw [upd_ne, upd_same]
      · rfl
      · intro e
        rw [e, TA'.ls 2 (by decide)] at ht3
        exact nomatch ht3
    revert TAB KB hB3
    generalize upd (upd H' t3 (.tup ((List.range u.len).map fun j => V.int (D.idx (p ++ [j]) : Nat)))) (L 2) (.lst ((S' 2).set (D.idx p) (.ref t3))) = HB
    intro TAB KB hB3
    -- self.highs[node] = len(self.leaves)
    have mB : HB (L 8) = some (.lst (S' 8)) := TAB.ls 8 (by decide)
    have mB6 : HB (L 6) = some (.lst (S' 6)) := TAB.ls 6 (by decide)
    refine ⟨_, rfl, a, C, dx, _, _, rfl, TAB.ob, TC.cl, TC.n8, stF_8 _ _, L 8, _, rfl, .inl (SqL.of mB), _, rfl, a, C, dx, _, _, rfl, TAB.ob, TC.cl, TC.n6, stF_6 _ _, _, rfl, L 6, _, _, D.idx p, rfl, rfl, mB6, ixN_nat (by rw [hn8 6 (by decide)]; exact jn), ?_⟩
    rw [hq8]
    have TAC := TAB.put (i := 6) (by decide) ((S' 6).set (D.idx p) (.int (D.low p + u.lf : Nat)))
    have KC := KB.put (i := 6) (by decide) (.lst ((S' 6).set (D.idx p) (.int (D.low p + u.lf : Nat))))
    have hC3 := (TAB.keepT ((Keep.refl L HB).put (i := 6) (by decide) (.lst ((S' 6).set (D.idx p) (.int (D.low p + u.lf : Nat)))))  t3 _).1 hB3
    revert TAC KC hC3
    generalize upd HB (L 6) (.lst ((S' 6).set (D.idx p) (.int (D.low p + u.lf : Nat)))) = HC
    intro TAC KC hC3
    -- self.ends[node] = len(self.boughs)
    have mC : HC (L 0) = some (.lst (S' 0)) := TAC.ls 0 (by decide)
    have mC7 : HC (L 7) = some (.lst (S' 7)) := TAC.ls 7 (by decide)
    refine ⟨_, rfl, a, C, dx, _, _, rfl, TAC.ob, TC.cl, TC.n0, stF_0 _ _, L 0, _, rfl, .inl (SqL.of mC), _, rfl, a, C, dx, _, _, rfl, TAC.ob, TC.cl, TC.n7, stF_7 _ _, _, rfl, L 7, _, _, D.idx p, rfl, rfl, mC7, ixN_nat (by rw [hn8 7 (by decide)]; exact jn), ?_⟩
    rw [hn8 0 (by decide)]
    have TAD := TAC.put (i := 7) (by decide) ((S' 7).set (D.idx p) (.int (D.idx p + u.nodes : Nat)))
    have KD := KC.put (i := 7) (by decide) (.lst ((S' 7).set (D.idx p) (.int (D.idx p + u.nodes : Nat))))
    have hD3 := (TAC.keepT ((Keep.refl L HC).put (i := 7) (by decide) (.lst ((S' 7).set (D.idx p) (.int (D.idx p + u.nodes : Nat)))))  t3 _).1 hC3
    revert TAD KD hD3
    generalize upd HC (L 7) (.lst ((S' 7).set (D.idx p) (.int (D.idx p + u.nodes : Nat)))) = HD
    intro TAD KD hD3
    refine q HD _ TAD ((KH.trans K').trans KD) ?_
    have ktD := TA'.keepT KD
    have cells : ∀ k, k < 8 → ∀ R, Paired (Cell K H' D k) R ((rowsN (aof k) u u.len).map (p ++ ·)) → ∀ v, Cell K HD D k v p → Paired (Cell K HD D k) (v :: R) ((aof k u).map (p ++ ·)) := by
      intro k hk R pR v hv
      have e : aof k u = [] :: rowsN (aof k) u u.len := by
        unfold aof
        rw [if_pos hk]
        exact ad_rows u
      rw [e, List.map_cons, List.append_nil]
      exact .cons hv (Paired.mono (fun v q c => Cell.keep ktD k v q c) pR)
    have cellsL : ∀ k, k = 8 ∨ k = 9 → ∀ R, Paired (Cell K H' D k) R ((rowsN (aof k) u u.len).map (p ++ ·)) → ∀ v, Cell K HD D k v p → ∃ R', (if bs = [] then S k ++ [v] else S k) ++ R = S k ++ R' ∧ Paired (Cell K HD D k) R' ((aof k u).map (p ++ ·)) := by
      intro k hk R pR v hv
      have ea : aof k = lv := by
        unfold aof
        rw [if_neg (by omega)]
      rw [ea] at pR ⊢
      by_cases e : bs = []
      · have e3 : u.len = 0 := by rw [← hul, e]; rfl
        rw [e3] at pR
        have pR' : Paired (Cell K H' D k) R [] := pR
        cases pR'
        refine ⟨[v], by rw [if_pos e, List.append_nil], ?_⟩
        rw [(lv_leaf e3).1]
        show Paired _ [v] [p ++ []]
        rw [List.append_nil]
        exact .cons hv .nil
      · have e3 : u.len ≠ 0 := fun z => e (List.eq_nil_of_length_eq_zero (by omega))
        refine ⟨R, by rw [if_neg e], ?_⟩
        rw [lv_rows u e3]
        exact Paired.mono (fun v q c => Cell.keep ktD k v q c) pR
    have hl : ∀ k, k < 8 → (S k).length = D.idx p := fun k hk => by
      rw [hst k (by omega)]
      unfold start
      rw [if_pos hk]
    intro k hk
    obtain ⟨R, eR, pR⟩ := G' k hk
    have htpD : SqT K HD tp (pth D p (p.length + 1)) := kt_sqt (kt'.trans ktD) htp11
    have hbD : SqT K HD b' bs := kt_sqt (kt'.trans ktD) hb11
    have hFD : ShF K HD bs u := hS11.keep (kt'.trans ktD)
    match k, hk, eR, pR with
    | 0, _, eR, pR => exact ⟨.ref b' :: R, by show S' 0 = _; rw [eR, q0]; simp, cells 0 (by decide) R pR _ ⟨u, hsub, b', bs, rfl, hbD, hFD⟩⟩
    | 1, _, eR, pR => exact ⟨parV D p :: R, by show S' 1 = _; rw [eR, q1]; simp, cells 1 (by decide) R pR _ rfl⟩
    | 2, _, eR, pR => exact ⟨.ref t3 :: R, by show (S' 2).set (D.idx p) (.ref t3) = _; rw [eR, q2]; exact set_mid _ _ _ _ _ (hl 2 (by decide)), cells 2 (by decide) R pR _ ⟨u, t3, hsub, rfl, SqT.of hD3⟩⟩
    | 3, _, eR, pR => exact ⟨.int (p.length : Nat) :: R, by show S' 3 = _; rw [eR, q3]; simp, cells 3 (by decide) R pR _ rfl⟩
    | 4, _, eR, pR => exact ⟨.int (sideI p) :: R, by show S' 4 = _; rw [eR, q4]; simp, cells 4 (by decide) R pR _ rfl⟩
    | 5, _, eR, pR => exact ⟨.int (D.low p : Nat) :: R, by show S' 5 = _; rw [eR, q5]; simp, cells 5 (by decide) R pR _ rfl⟩
    | 6, _, eR, pR => exact ⟨.int (D.low p + u.lf : Nat) :: R, by show (S' 6).set (D.idx p) _ = _; rw [eR, q6]; exact set_mid _ _ _ _ _ (hl 6 (by decide)), cells 6 (by decide) R pR _ ⟨u, hsub, rfl⟩⟩
    | 7, _, eR, pR => exact ⟨.int (D.idx p + u.nodes : Nat) :: R, by show (S' 7).set (D.idx p) _ = _; rw [eR, q7]; exact set_mid _ _ _ _ _ (hl 7 (by decide)), cells 7 (by decide) R pR _ ⟨u, hsub, rfl⟩⟩
    | 8, _, eR, pR =>
      obtain ⟨R', e1, e2⟩ := cellsL 8 (.inl rfl) R pR (.int (D.idx p : Nat)) rfl
      exact ⟨R', by show S' 8 = _; rw [eR, q8]; exact e1, e2⟩
    | 9, _, eR, pR =>
      obtain ⟨R', e1, e2⟩ := cellsL 9 (.inr rfl) R pR (.ref tp) ⟨tp, rfl, htpD⟩
      exact ⟨R', by show S' 9 = _; rw [eR, q9]; exact e1, e2⟩
end
end K26
set_option Elab.async false
set_option linter.all false
set_option maxRecDepth 100000
set_option maxHeartbeats 4000000
namespace K26
open PySem PySem.Spec PyProof.Rows L2 Dt
theorem DtF.good {K : PySem.W.Frag} {H : Hp} {vs : List V} {t : Dt} (h : DtF K H vs t) : t.deep 1 = true → ShF K H vs t := by
  induction h with
  | nil => exact fun _ => .nil
  | bad h n q ih =>
    intro g
    exact nomatch (show (false : Bool) = true by simpa [Dt.deep, Dt.here, Dt.isx] using g)
  | @tup a vs ws k r h p q ih1 ih2 =>
    intro g
    have g' : (here 1 k && deep 1 k && deep 1 r) = true := g
    simp only [Bool.and_eq_true] at g'
    exact .cons h (ih1 g'.1.2) (ih2 g'.2)
theorem DtV.good {K : PySem.W.Frag} {H : Hp} {v : V} {t : Dt} (h : DtV K H v t) (g : t.good 1 = true) : ShV K H v t := by
  rcases h with ⟨rfl, _⟩ | ⟨a, vs, h1, h2, h3⟩
  · exact nomatch (show (false : Bool) = true by simpa [Dt.good, Dt.here, Dt.isx] using g)
  · unfold Dt.good at g
    rw [Bool.and_eq_true] at g
    exact ⟨a, vs, h1, h2, h3.good g.2⟩
theorem getD_at (l : List Addr) (i : Nat) (h : i < l.length) : l.getD i 0 = l[i] := by
  simp [List.getElem?_eq_getElem h]
/-- the lists of a whole tree -/
def Full (K : PySem.W.Frag) (H : Hp) (T : Dt) (S : Nat → List V) : Prop := ∀ i, i < 10 → Paired (Cell K H T i) (S i) (aof i T)
structure InitAt (C : Addr) (H0 H : Hp) (a dx : Addr) (fs : List (Str × V)) (ls : List Addr) : Prop where
  ob : H a = some (.ins C dx fs)
  em : ∀ l ∈ ls, H l = some (.lst [])
  nd : ls.Nodup
  kp : ∀ y o, H0 y = some o → y ≠ a → H y = some o
  fr : ∀ l ∈ ls, H0 l = none
theorem InitAt.step {C : Addr} {H0 H : Hp} {a dx l : Addr} {fs fs' : List (Str × V)} {ls : List Addr} (h : InitAt C H0 H a dx fs ls) (hl : H l = none) : (upd H l (.lst [])) a = some (.ins C dx fs) ∧ InitAt C H0 (upd (upd H l (.lst [])) a (.ins C dx fs')) a dx fs' (ls ++ [l]) := by
  have ela : l ≠ a := fun e => by
    rw [e, h.ob] at hl
    exact nomatch hl
  have hnl : ∀ m ∈ ls, m ≠ l := fun m hm e => by
    have := h.em m hm
    rw [e, hl] at this
    exact nomatch this
  refine ⟨by rw [upd_ne (Ne.symm ela)]; exact h.ob, upd_same, fun m hm => ?_, ?_, fun y o e hy => ?_, fun m hm => ?_⟩
  · rcases List.mem_append.mp hm with hm | hm
    · rw [upd_ne, upd_ne (hnl m hm)]
      · exact h.em m hm
      · intro e
        have := h.em m hm
        rw [e, h.ob] at this
        exact HO.noConfusion (Option.some.inj this)
    · obtain rfl : m = l := by simpa using hm
      rw [upd_ne ela, upd_same]
  · refine List.nodup_append.mpr ⟨h.nd, by simp, fun x hx y hy => ?_⟩
    obtain rfl : y = l := by simpa using hy
    exact hnl x hx
  · rw [upd_ne hy, upd_ne (ne_of_none (h.kp y o e hy) hl)]
    exact h.kp y o e hy
  · rcases List.mem_append.mp hm with hm | hm
    · exact h.fr m hm
    · obtain rfl : m = l := by simpa using hm
      cases e : H0 m with
      | none => rfl
      | some o =>
        have := h.kp m o e ela
        rw [hl] at this
        exact nomatch this
def spInit (K : PySem.W.Frag) (C U : Addr) (n : Nat) : Sp := fun vs H Q E => ∃ (a dx : Addr) (v : V) (t : Dt), vs = [.ref a, v] ∧ H a = some (.ins C dx []) ∧ DtV K H v t ∧ t.size ≤ 100000 ∧
  (t.good 1 = true → t.ht < n ∧ t.nodes ≤ 1000 ∧ ∀ H' L S, TreeAt C H' a dx v L S → (∀ y o, H y = some o → y ≠ a → H' y = some o) → Full K H' t S → (∀ i, i < 10 → H (L i) = none) → Q .non H') ∧
  (t.good 1 = false → ∀ H' d, Same H H' → H' d = none → E (.ref U) (some d) (upd H' d (xdO "form" (-1))))
section
variable {P : Program} {w : World} {K : PySem.W.Frag} {mg : Str → Option Value} {base : Heap}
theorem ok_init {C U f fG : Addr} {fd fdG : FuncData} (F : Fun K "__init__" "ShapeTree.__init__" s_ShapeTree_init f fd) (bG : Binds K fdG ["self", "bough", "above", "side"] []) (G : FnOk P w K mg base CX0 20 fG fdG ["self", "bough", "above", "side"] (spGrow K C 20))
    (TC : TCl K mg C fG) (GN : CalX P w K mg base (L2.CX P w) 4 "need_shape" ["form", "word"] (spNeedShape K U)) : FnOk P w K mg base (L2.CX P w) 21 f fd ["self", "form"] (spInit K C U 20) := by
  refine F.okX sc_ShapeTree_init (fun vs H Q E h => ?_) (fun cdv A outer s H vs Q E hr h => ?_)
  · obtain ⟨a, dx, v, t, rfl, _⟩ := h
    rfl
  obtain ⟨a, dx, v, t, rfl, ho, hv, hz, q1, q2⟩ := h
  refine ⟨_, pss_cons (ps_expr (pe_cx GN hr (by decide) rfl (passes_call (takes_of rfl rfl rfl rfl) (fun _ _ _ _ h => h)) (pa_cons (pv 1) (pa_cons pe_str pa_nil))))
    (pss_cons (ps_fld (pv 0) (pv 1) rfl)
    (pss_cons (ps_fld (pv 0) (pe_lst pa_nil) rfl)
    (pss_cons (ps_fld (pv 0) (pe_lst pa_nil) rfl)
    (pss_cons (ps_fld (pv 0) (pe_lst pa_nil) rfl)
    (pss_cons (ps_fld (pv 0) (pe_lst pa_nil) rfl)
    (pss_cons (ps_fld (pv 0) (pe_lst pa_nil) rfl)
    (pss_cons (ps_fld (pv 0) (pe_lst pa_nil) rfl)
    (pss_cons (ps_fld (pv 0) (pe_lst pa_nil) rfl)
    (pss_cons (ps_fld (pv 0) (pe_lst pa_nil) rfl)
    (pss_cons (ps_fld (pv 0) (pe_lst pa_nil) rfl)
    (pss_cons (ps_fld (pv 0) (pe_lst pa_nil) rfl)
    (pss_one (ps_expr (pe_meth (pv 0) TC.cl TC.mG G hr bG .nil pass0 (pa_cons (pv 1) (pa_cons (pe_tup pa_nil) (pa_cons (pe_un un_neg pe_int) pa_nil))))))))))))))))), ?_⟩
  refine ⟨_, rfl, v, t, "form", rfl, hv, hz, fun g H' sm => ?_, fun g H' d sm hd => q2 g H' d sm hd⟩
  obtain ⟨q1a, q1b, q1c⟩ := q1 g
  have ho' := sm _ _ ho
  refine ⟨_, rfl, _, rfl, a, C, dx, [], rfl, ho', TC.cl, TC.nF, (by show 0 < 1000; decide), ?_⟩
  have I0 : InitAt C H (upd H' a (.ins C dx (putF "form" v []))) a dx [("form", v)] [] := ⟨upd_same, (fun _ h => nomatch h), List.nodup_nil, fun y o e hy => by rw [upd_ne hy]; exact sm _ _ e, fun _ h => nomatch h⟩
  revert I0
  generalize upd H' a (.ins C dx (putF "form" v [])) = H0
  intro I0
  refine ⟨(by show 0 ≤ sizeLine; decide), fun l0 hl0 => ?_⟩
  obtain ⟨o0, I1⟩ := I0.step (fs' := (([("form", v)] : List (Str × V)) ++ ([("boughs", V.ref l0)] : List (Str × V)))) hl0
  refine ⟨_, rfl, a, C, dx, _, rfl, o0, TC.cl, TC.n0, (by show 1 < 1000; decide), ?_⟩
  rw [putF_new (f := ("boughs" : Str)) (v := V.ref l0) (fs := ([("form", v)] : List (Str × V))) (show ∀ g ∈ (["form"] : List Str), ¬ g = "boughs" by decide +kernel)]
  revert I1
  generalize upd (upd H0 l0 (.lst [])) a (.ins C dx (([("form", v)] : List (Str × V)) ++ ([("boughs", V.ref l0)] : List (Str × V)))) = H1
  intro I1
  refine ⟨(by show 0 ≤ sizeLine; decide), fun l1 hl1 => ?_⟩
  obtain ⟨o1, I2⟩ := I1.step (fs' := ((([("form", v)] : List (Str × V)) ++ ([("boughs", V.ref l0)] : List (Str × V))) ++ ([("parents", V.ref l1)] : List (Str × V)))) hl1
  refine ⟨_, rfl, a, C, dx, _, rfl, o1, TC.cl, TC.n1, (by show 2 < 1000; decide), ?_⟩
  rw [putF_new (f := ("parents" : Str)) (v := V.ref l1) (fs := (([("form", v)] : List (Str × V)) ++ ([("boughs", V.ref l0)] : List (Str × V)))) (show ∀ g ∈ (["form", "boughs"] : List Str), ¬ g = "parents" by decide +kernel)]
  revert I2
  generalize upd (upd H1 l1 (.lst [])) a (.ins C dx ((([("form", v)] : List (Str × V)) ++ ([("boughs", V.ref l0)] : List (Str × V))) ++ ([("parents", V.ref l1)] : List (Str × V)))) = H2
  intro I2
  refine ⟨(by show 0 ≤ sizeLine; decide), fun l2 hl2 => ?_⟩
  obtain ⟨o2, I3⟩ := I2.step (fs' := (((([("form", v)] : List (Str × V)) ++ ([("boughs", V.ref l0)] : List (Str × V))) ++ ([("parents", V.ref l1)] : List (Str × V))) ++ ([("kids", V.ref l2)] : List (Str × V)))) hl2
  refine ⟨_, rfl, a, C, dx, _, rfl, o2, TC.cl, TC.n2, (by show 3 < 1000; decide), ?_⟩
  rw [putF_new (f := ("kids" : Str)) (v := V.ref l2) (fs := ((([("form", v)] : List (Str × V)) ++ ([("boughs", V.ref l0)] : List (Str × V))) ++ ([("parents", V.ref l1)] : List (Str × V)))) (show ∀ g ∈ (["form", "boughs", "parents"] : List Str), ¬ g = "kids" by decide +kernel)]
  revert I3
  generalize upd (upd H2 l2 (.lst [])) a (.ins C dx (((([("form", v)] : List (Str × V)) ++ ([("boughs", V.ref l0)] : List (Str × V))) ++ ([("parents", V.ref l1)] : List (Str × V))) ++ ([("kids", V.ref l2)] : List (Str × V)))) = H3
  intro I3
  refine ⟨(by show 0 ≤ sizeLine; decide), fun l3 hl3 => ?_⟩
  obtain ⟨o3, I4⟩ := I3.step (fs' := ((((([("form", v)] : List (Str × V)) ++ ([("boughs", V.ref l0)] : List (Str × V))) ++ ([("parents", V.ref l1)] : List (Str × V))) ++ ([("kids", V.ref l2)] : List (Str × V))) ++ ([("depths", V.ref l3)] : List (Str × V)))) hl3
  refine ⟨_, rfl, a, C, dx, _, rfl, o3, TC.cl, TC.n3, (by show 4 < 1000; decide), ?_⟩
  rw [putF_new (f := ("depths" : Str)) (v := V.ref l3) (fs := (((([("form", v)] : List (Str × V)) ++ ([("boughs", V.ref l0)] : List (Str × V))) ++ ([("parents", V.ref l1)] : List (Str × V))) ++ ([("kids", V.ref l2)] : List (Str × V)))) (show ∀ g ∈ (["form", "boughs", "parents", "kids"] : List Str), ¬ g = "depths" by decide +kernel)]
  revert I4
  generalize upd (upd H3 l3 (.lst [])) a (.ins C dx ((((([("form", v)] : List (Str × V)) ++ ([("boughs", V.ref l0)] : List (Str × V))) ++ ([("parents", V.ref l1)] : List (Str × V))) ++ ([("kids", V.ref l2)] : List (Str × V))) ++ ([("depths", V.ref l3)] : List (Str × V)))) = H4
  intro I4
  refine ⟨(by show 0 ≤ sizeLine; decide), fun l4 hl4 => ?_⟩
  obtain ⟨o4, I5⟩ := I4.step (fs' := (((((([("form", v)] : List (Str × V)) ++ ([("boughs", V.ref l0)] : List (Str × V))) ++ ([("parents", V.ref l1)] : List (Str × V))) ++ ([("kids", V.ref l2)] : List (Str × V))) ++ ([("depths", V.ref l3)] : List (Str × V))) ++ ([("sides", V.ref l4)] : List (Str × V)))) hl4
  refine ⟨_, rfl, a, C, dx, _, rfl, o4, TC.cl, TC.n4, (by show 5 < 1000; decide), ?_⟩
  rw [putF_new (f := ("sides" : Str)) (v := V.ref l4) (fs := ((((([("form", v)] : List (Str × V)) ++ ([("boughs", V.ref l0)] : List (Str × V))) ++ ([("parents", V.ref l1)] : List (Str × V))) ++ ([("kids", V.ref l2)] : List (Str × V))) ++ ([("depths", V.ref l3)] : List (Str × V)))) (show ∀ g ∈ (["form", "boughs", "parents", "kids", "depths"] : List Str), ¬ g = "sides" by decide +kernel)]
  revert I5
  generalize upd (upd H4 l4 (.lst [])) a (.ins C dx (((((([("form", v)] : List (Str × V)) ++ ([("boughs", V.ref l0)] : List (Str × V))) ++ ([("parents", V.ref l1)] : List (Str × V))) ++ ([("kids", V.ref l2)] : List (Str × V))) ++ ([("depths", V.ref l3)] : List (Str × V))) ++ ([("sides", V.ref l4)] : List (Str × V)))) = H5
  intro I5
  refine ⟨(by show 0 ≤ sizeLine; decide), fun l5 hl5 => ?_⟩
  obtain ⟨o5, I6⟩ := I5.step (fs' := ((((((([("form", v)] : List (Str × V)) ++ ([("boughs", V.ref l0)] : List (Str × V))) ++ ([("parents", V.ref l1)] : List (Str × V))) ++ ([("kids", V.ref l2)] : List (Str × V))) ++ ([("depths", V.ref l3)] : List (Str × V))) ++ ([("sides", V.ref l4)] : List (Str × V))) ++ ([("lows", V.ref l5)] : List (Str × V)))) hl5
  refine ⟨_, rfl, a, C, dx, _, rfl, o5, TC.cl, TC.n5, (by show 6 < 1000; decide), ?_⟩
  rw [putF_new (f := ("lows" : Str)) (v := V.ref l5) (fs := (((((([("form", v)] : List (Str × V)) ++ ([("boughs", V.ref l0)] : List (Str × V))) ++ ([("parents", V.ref l1)] : List (Str × V))) ++ ([("kids", V.ref l2)] : List (Str × V))) ++ ([("depths", V.ref l3)] : List (Str × V))) ++ ([("sides", V.ref l4)] : List (Str × V)))) (show ∀ g ∈ (["form", "boughs", "parents", "kids", "depths", "sides"] : List Str), ¬ g = "lows" by decide +kernel)]
  revert I6
  generalize upd (upd H5 l5 (.lst [])) a (.ins C dx ((((((([("form", v)] : List (Str × V)) ++ ([("boughs", V.ref l0)] : List (Str × V))) ++ ([("parents", V.ref l1)] : List (Str × V))) ++ ([("kids", V.ref l2)] : List (Str × V))) ++ ([("depths", V.ref l3)] : List (Str × V))) ++ ([("sides", V.ref l4)] : List (Str × V))) ++ ([("lows", V.ref l5)] : List (Str × V)))) = H6
  intro I6
  refine ⟨(by show 0 ≤ sizeLine; decide), fun l6 hl6 => ?_⟩
  obtain ⟨o6, I7⟩ := I6.step (fs' := (((((((([("form", v)] : List (Str × V)) ++ ([("boughs", V.ref l0)] : List (Str × V))) ++ ([("parents", V.ref l1)] : List (Str × V))) ++ ([("kids", V.ref l2)] : List (Str × V))) ++ ([("depths", V.ref l3)] : List (Str × V))) ++ ([("sides", V.ref l4)] : List (Str × V))) ++ ([("lows", V.ref l5)] : List (Str × V))) ++ ([("highs", V.ref l6)] : List (Str × V)))) hl6
  refine ⟨_, rfl, a, C, dx, _, rfl, o6, TC.cl, TC.n6, (by show 7 < 1000; decide), ?_⟩
  rw [putF_new (f := ("highs" : Str)) (v := V.ref l6) (fs := ((((((([("form", v)] : List (Str × V)) ++ ([("boughs", V.ref l0)] : List (Str × V))) ++ ([("parents", V.ref l1)] : List (Str × V))) ++ ([("kids", V.ref l2)] : List (Str × V))) ++ ([("depths", V.ref l3)] : List (Str × V))) ++ ([("sides", V.ref l4)] : List (Str × V))) ++ ([("lows", V.ref l5)] : List (Str × V)))) (show ∀ g ∈ (["form", "boughs", "parents", "kids", "depths", "sides", "lows"] : List Str), ¬ g = "highs" by decide +kernel)]
  revert I7
  generalize upd (upd H6 l6 (.lst [])) a (.ins C dx (((((((([("form", v)] : List (Str × V)) ++ ([("boughs", V.ref l0)] : List (Str × V))) ++ ([("parents", V.ref l1)] : List (Str × V))) ++ ([("kids", V.ref l2)] : List (Str × V))) ++ ([("depths", V.ref l3)] : List (Str × V))) ++ ([("sides", V.ref l4)] : List (Str × V))) ++ ([("lows", V.ref l5)] : List (Str × V))) ++ ([("highs", V.ref l6)] : List (Str × V)))) = H7
  intro I7
  refine ⟨(by show 0 ≤ sizeLine; decide), fun l7 hl7 => ?_⟩
  obtain ⟨o7, I8⟩ := I7.step (fs' := ((((((((([("form", v)] : List (Str × V)) ++ ([("boughs", V.ref l0)] : List (Str × V))) ++ ([("parents", V.ref l1)] : List (Str × V))) ++ ([("kids", V.ref l2)] : List (Str × V))) ++ ([("depths", V.ref l3)] : List (Str × V))) ++ ([("sides", V.ref l4)] : List (Str × V))) ++ ([("lows", V.ref l5)] : List (Str × V))) ++ ([("highs", V.ref l6)] : List (Str × V))) ++ ([("ends", V.ref l7)] : List (Str × V)))) hl7
  refine ⟨_, rfl, a, C, dx, _, rfl, o7, TC.cl, TC.n7, (by show 8 < 1000; decide), ?_⟩
  rw [putF_new (f := ("ends" : Str)) (v := V.ref l7) (fs := (((((((([("form", v)] : List (Str × V)) ++ ([("boughs", V.ref l0)] : List (Str × V))) ++ ([("parents", V.ref l1)] : List (Str × V))) ++ ([("kids", V.ref l2)] : List (Str × V))) ++ ([("depths", V.ref l3)] : List (Str × V))) ++ ([("sides", V.ref l4)] : List (Str × V))) ++ ([("lows", V.ref l5)] : List (Str × V))) ++ ([("highs", V.ref l6)] : List (Str × V)))) (show ∀ g ∈ (["form", "boughs", "parents", "kids", "depths", "sides", "lows", "highs"] : List Str), ¬ g = "ends" by decide +kernel)]
  revert I8
  generalize upd (upd H7 l7 (.lst [])) a (.ins C dx ((((((((([("form", v)] : List (Str × V)) ++ ([("boughs", V.ref l0)] : List (Str × V))) ++ ([("parents", V.ref l1)] : List (Str × V))) ++ ([("kids", V.ref l2)] : List (Str × V))) ++ ([("depths", V.ref l3)] : List (Str × V))) ++ ([("sides", V.ref l4)] : List (Str × V))) ++ ([("lows", V.ref l5)] : List (Str × V))) ++ ([("highs", V.ref l6)] : List (Str × V))) ++ ([("ends", V.ref l7)] : List (Str × V)))) = H8
  intro I8
  refine ⟨(by show 0 ≤ sizeLine; decide), fun l8 hl8 => ?_⟩
  obtain ⟨o8, I9⟩ := I8.step (fs' := (((((((((([("form", v)] : List (Str × V)) ++ ([("boughs", V.ref l0)] : List (Str × V))) ++ ([("parents", V.ref l1)] : List (Str × V))) ++ ([("kids", V.ref l2)] : List (Str × V))) ++ ([("depths", V.ref l3)] : List (Str × V))) ++ ([("sides", V.ref l4)] : List (Str × V))) ++ ([("lows", V.ref l5)] : List (Str × V))) ++ ([("highs", V.ref l6)] : List (Str × V))) ++ ([("ends", V.ref l7)] : List (Str × V))) ++ ([("leaves", V.ref l8)] : List (Str × V)))) hl8
  refine ⟨_, rfl, a, C, dx, _, rfl, o8, TC.cl, TC.n8, (by show 9 < 1000; decide), ?_⟩
  rw [putF_new (f := ("leaves" : Str)) (v := V.ref l8) (fs := ((((((((([("form", v)] : List (Str × V)) ++ ([("boughs", V.ref l0)] : List (Str × V))) ++ ([("parents", V.ref l1)] : List (Str × V))) ++ ([("kids", V.ref l2)] : List (Str × V))) ++ ([("depths", V.ref l3)] : List (Str × V))) ++ ([("sides", V.ref l4)] : List (Str × V))) ++ ([("lows", V.ref l5)] : List (Str × V))) ++ ([("highs", V.ref l6)] : List (Str × V))) ++ ([("ends", V.ref l7)] : List (Str × V)))) (show ∀ g ∈ (["form", "boughs", "parents", "kids", "depths", "sides", "lows", "highs", "ends"] : List Str), ¬ g = "leaves" by decide +kernel)]
  revert I9
  generalize upd (upd H8 l8 (.lst [])) a (.ins C dx (((((((((([("form", v)] : List (Str × V)) ++ ([("boughs", V.ref l0)] : List (Str × V))) ++ ([("parents", V.ref l1)] : List (Str × V))) ++ ([("kids", V.ref l2)] : List (Str × V))) ++ ([("depths", V.ref l3)] : List (Str × V))) ++ ([("sides", V.ref l4)] : List (Str × V))) ++ ([("lows", V.ref l5)] : List (Str × V))) ++ ([("highs", V.ref l6)] : List (Str × V))) ++ ([("ends", V.ref l7)] : List (Str × V))) ++ ([("leaves", V.ref l8)] : List (Str × V)))) = H9
  intro I9
  refine ⟨(by show 0 ≤ sizeLine; decide), fun l9 hl9 => ?_⟩
  obtain ⟨o9, I10⟩ := I9.step (fs' := ((((((((((([("form", v)] : List (Str × V)) ++ ([("boughs", V.ref l0)] : List (Str × V))) ++ ([("parents", V.ref l1)] : List (Str × V))) ++ ([("kids", V.ref l2)] : List (Str × V))) ++ ([("depths", V.ref l3)] : List (Str × V))) ++ ([("sides", V.ref l4)] : List (Str × V))) ++ ([("lows", V.ref l5)] : List (Str × V))) ++ ([("highs", V.ref l6)] : List (Str × V))) ++ ([("ends", V.ref l7)] : List (Str × V))) ++ ([("leaves", V.ref l8)] : List (Str × V))) ++ ([("paths", V.ref l9)] : List (Str × V)))) hl9
  refine ⟨_, rfl, a, C, dx, _, rfl, o9, TC.cl, TC.n9, (by show 10 < 1000; decide), ?_⟩
  rw [putF_new (f := ("paths" : Str)) (v := V.ref l9) (fs := (((((((((([("form", v)] : List (Str × V)) ++ ([("boughs", V.ref l0)] : List (Str × V))) ++ ([("parents", V.ref l1)] : List (Str × V))) ++ ([("kids", V.ref l2)] : List (Str × V))) ++ ([("depths", V.ref l3)] : List (Str × V))) ++ ([("sides", V.ref l4)] : List (Str × V))) ++ ([("lows", V.ref l5)] : List (Str × V))) ++ ([("highs", V.ref l6)] : List (Str × V))) ++ ([("ends", V.ref l7)] : List (Str × V))) ++ ([("leaves", V.ref l8)] : List (Str × V)))) (show ∀ g ∈ (["form", "boughs", "parents", "kids", "depths", "sides", "lows", "highs", "ends", "leaves"] : List Str), ¬ g = "paths" by decide +kernel)]
  revert I10
  generalize upd (upd H9 l9 (.lst [])) a (.ins C dx ((((((((((([("form", v)] : List (Str × V)) ++ ([("boughs", V.ref l0)] : List (Str × V))) ++ ([("parents", V.ref l1)] : List (Str × V))) ++ ([("kids", V.ref l2)] : List (Str × V))) ++ ([("depths", V.ref l3)] : List (Str × V))) ++ ([("sides", V.ref l4)] : List (Str × V))) ++ ([("lows", V.ref l5)] : List (Str × V))) ++ ([("highs", V.ref l6)] : List (Str × V))) ++ ([("ends", V.ref l7)] : List (Str × V))) ++ ([("leaves", V.ref l8)] : List (Str × V))) ++ ([("paths", V.ref l9)] : List (Str × V)))) = H10
  intro I10
  have ob : H10 a = some (.ins C dx (stF v (fun i => [l0, l1, l2, l3, l4, l5, l6, l7, l8, l9].getD i 0))) := I10.ob
  have TA : TreeAt C H10 a dx v (fun i => [l0, l1, l2, l3, l4, l5, l6, l7, l8, l9].getD i 0) (fun _ => []) := ⟨ob, fun i hi => I10.em _ (by
      rw [getD_at _ _ (show i < [l0, l1, l2, l3, l4, l5, l6, l7, l8, l9].length from hi)]
      exact List.getElem_mem _), fun i j hi hj e => by
      have e' : [l0, l1, l2, l3, l4, l5, l6, l7, l8, l9].getD i 0 = [l0, l1, l2, l3, l4, l5, l6, l7, l8, l9].getD j 0 := e
      rw [getD_at _ _ (show i < [l0, l1, l2, l3, l4, l5, l6, l7, l8, l9].length from hi), getD_at _ _ (show j < [l0, l1, l2, l3, l4, l5, l6, l7, l8, l9].length from hj)] at e'
      exact (List.getElem_inj (show [l0, l1, l2, l3, l4, l5, l6, l7, l8, l9].Nodup from I10.nd)).mp e'⟩
  have fr : ∀ i, i < 10 → H ([l0, l1, l2, l3, l4, l5, l6, l7, l8, l9].getD i 0) = none := fun i hi => I10.fr _ (by
      rw [getD_at _ _ (show i < [l0, l1, l2, l3, l4, l5, l6, l7, l8, l9].length from hi)]
      exact List.getElem_mem _)
  revert TA fr
  generalize hL : (fun i => [l0, l1, l2, l3, l4, l5, l6, l7, l8, l9].getD i 0) = L
  intro TA fr
  have fr' : ∀ i, i < 10 → H (L i) = none := fun i hi => by rw [← hL]; exact fr i hi
  obtain ⟨b', bs, rfl, hb, hS⟩ := hv.good g
  have kt : KeepT H H10 := fun y xs => ⟨fun e => I10.kp y _ e (fun z => by rw [z, ho] at e; exact HO.noConfusion (Option.some.inj e)), fun o e => I10.kp y _ e (fun z => by rw [z, ho] at e; exact HO.noConfusion (Option.some.inj e))⟩
  refine ⟨_, rfl, a, dx, _, rfl, TA.ob, stF_grow _ _, _, rfl, (by show 0 ≤ sizeLine; decide), fun t1 ht1 => ?_⟩
  have s1 : Same H10 (upd H10 t1 (.tup [])) := same_new ht1
  refine ⟨_, rfl, a, b', t1, dx, bs, t, t, [], .ref b', L, fun _ => [], rfl, TA.same s1, same_sqt s1 (kt_sqt kt hb), (hS.keep kt).keep (KeepT.of_same s1), SqT.of upd_same, sub_nil t, q1b, q1a, (by decide), fun i _ => ?_, fun H' S' TA' K' G' => q1c H' L S' TA' (fun y o e hy => ?_) (fun i hi => ?_) fr'⟩
  · unfold start
    rw [idx_nil, low_nil]
    split <;> rfl
  · refine K' y o (s1 _ _ (I10.kp y o e hy)) fun i hi z => ?_
    rw [z, fr' i hi] at e
    exact nomatch e
  · obtain ⟨R, eR, pR⟩ := G' i hi
    rw [eR]
    have e : (aof i t).map (([] : Ad) ++ ·) = aof i t := by simp
    rw [← e]
    exact pR
end
end K26
set_option Elab.async false
set_option linter.all false
set_option maxRecDepth 100000
set_option maxHeartbeats 4000000
namespace K26
open PySem PySem.Spec PyProof.Rows L2 Dt
/-! ### data of any kind -/
def kindOf : PyData → String
  | .none => "NoneType" | .bool _ => "bool" | .int _ => "int" | .str _ => "str" | .tuple _ => "tuple" | _ => "list"
theorem kind_dp {K : PySem.W.Frag} {H : Hp} {v : V} {d : PyData} (h : Dp K H v d) : KindV K H v (kindOf d) := by
  cases h with
  | non => exact kind_non
  | bl b => exact kind_bl b
  | int i => exact kind_int i
  | str s => exact kind_str s
  | lst h _ =>
    refine ⟨?_, by simp [kindOf]⟩
    rcases h with (h | ⟨o, h⟩) | ⟨o, its, n, h1, h2, _⟩
    · exact .base (.lst h)
    · exact .base (.frz h)
    · exact .kList h1 h2
  | tup h _ => exact kind_sqt h
def numOf : PyData → Option Int | .int i => some i | _ => none
theorem num_dp {K : PySem.W.Frag} {H : Hp} {v : V} {d : PyData} (h : Dp K H v d) : NumV K H v (numOf d) := by
  have k := kind_dp h
  cases h with
  | int i => exact rfl
  | non => exact ⟨_, k, by decide⟩
  | bl b => exact ⟨_, k, by simp [kindOf]⟩
  | str s => exact ⟨_, k, by simp [kindOf]⟩
  | lst h _ => exact ⟨_, k, by simp [kindOf]⟩
  | tup h _ => exact ⟨_, k, by simp [kindOf]⟩
theorem dps_at {K : PySem.W.Frag} {H : Hp} : ∀ {vs : List V} {ds : List PyData}, DpAll K H vs ds → ∀ {i : Nat} {v : V}, vs[i]? = some v → ∃ d, ds[i]? = some d ∧ Dp K H v d
  | _, _, .nil, i, d, h => by simp at h
  | _, _, .cons h q, 0, d, e => by
    obtain rfl := Option.some.inj e
    exact ⟨_, rfl, h⟩
  | _, _, .cons h q, i + 1, d, e => dps_at q (i := i) (v := d) (by simpa using e)
theorem dps_len {K : PySem.W.Frag} {H : Hp} : ∀ {vs : List V} {ds : List PyData}, DpAll K H vs ds → vs.length = ds.length
  | _, _, .nil => rfl
  | _, _, .cons h q => congrArg (· + 1) (dps_len q)
mutual
theorem dp_same {K : PySem.W.Frag} {H H' : Hp} (e : Same H H') : ∀ {v : V} {d : PyData}, Dp K H v d → Dp K H' v d
  | _, _, .non => .non
  | _, _, .bl b => .bl b
  | _, _, .int i => .int i
  | _, _, .str z => .str z
  | _, _, .lst h q => .lst (e.seq h) (dps_same e q)
  | _, _, .tup h q => .tup (same_sqt e h) (dps_same e q)
theorem dps_same {K : PySem.W.Frag} {H H' : Hp} (e : Same H H') : ∀ {v : List V} {d : List PyData}, DpAll K H v d → DpAll K H' v d
  | _, _, .nil => .nil
  | _, _, .cons h q => .cons (dp_same e h) (dps_same e q)
end
theorem kind_tup_not {d : PyData} (h : ∀ ds, d ≠ .tuple ds) : (kindOf d == "tuple") = false := by
  cases d with
  | tuple ds => exact absurd rfl (h ds)
  | none => decide
  | bool _ => simp [kindOf]
  | int _ => simp [kindOf]
  | str _ => simp [kindOf]
  | list _ => simp [kindOf]
  | dict _ => simp [kindOf]
/-! ### is_rank -/
def rankB : Int := 1606938044258990275541962092341162602522202993782792835301376
def partB (d : PyData) : Bool := match numOf d with | some i => decide (-rankB < i) && decide (i < rankB) | none => false
def rankOf (d : PyData) : Bool := match d with | .tuple ds => decide (ds.length ≤ 8) && ds.all partB | _ => false
def spRank (K : PySem.W.Frag) : Sp := fun vs H Q _ => ∃ (x : V) (d : PyData), vs = [x] ∧ Dp K H x d ∧ Q (.bl (rankOf d)) H
section
variable {P : Program} {w : World} {K : PySem.W.Frag} {mg : Str → Option Value} {base : Heap}
theorem ok_rank (D : DefAt K mg "is_rank" s_is_rank ["thing"]) (T : Txt K mg) (mk : ∃ t, mg "MOST_INTEGERS" = some (.int 8 t)) (mr : ∃ t, mg "RANK_BOUND" = some (.int rankB t)) (GI : CalX P w K mg base CX0 1 "is_integer" ["thing"] (spInteger K)) : CalX P w K mg base CX0 2 "is_rank" ["thing"] (spRank K) := by
  obtain ⟨tk, mk⟩ := mk
  obtain ⟨tr, mr⟩ := mr
  refine D.ok sc_is_rank (fun vs H Q E h => ?_) (fun f cdv A outer s H vs Q E hr h => ?_)
  · obtain ⟨x, d, rfl, _⟩ := h
    rfl
  obtain ⟨x, d, rfl, hx, q⟩ := h
  refine ⟨_, pss_cons (ps_if (PW.pt (pw_or (pt_not (pt_val (pe_callB call_isi (by rfl) T.isinstance boot_isinstance (pa_cons (pv 0) (pa_cons (pe_bltn (v := .ty "tuple") (by rfl) T.tuple PyProof.Rows.boot_tuple rfl) pa_nil)))))
        (pw_or1 (pt_cmpR op_gt (pe_callB call_len_seq (by rfl) T.len PySem.boot_len (pa_cons (pv 0) pa_nil)) (pe_glob (v := .int 8) (by rfl) mk ⟨_, rfl⟩) (nomark _))))) (pss_one (ps_ret pe_bl)) pss_nil)
    (pss_cons (ps_for PassesOwn.never rfl (pi_tup (pv 0)) (pg_name (i := 1) sc_is_rank.nd rfl (Or.inl rfl))
      (pss_one (ps_if (PW.pt (pw_or (pt_not (pt_val (pe_c0 GI hr (by decide) rfl (pa_cons (pv 1) pa_nil))))
        (pw_or1 (pt_not (pt_chain op_lt op_lt (pe_un un_neg (pe_glob (v := .int rankB) (by rfl) mr ⟨_, rfl⟩)) (pv 1) (pe_glob (v := .int rankB) (by rfl) mr ⟨_, rfl⟩)))))) (pss_one (ps_ret pe_bl)) pss_nil)))
    (pss_one (ps_ret pe_bl))), ?_⟩
  have kx := kind_dp hx
  refine isi_read rfl kx.1 (kit_tup kx.2) ⟨_, rfl, ?_⟩
  by_cases ht : ∃ ds, d = .tuple ds
  · obtain ⟨ds, rfl⟩ := ht
    cases hx with
    | @tup a xs _ hs ha =>
    have hl := dps_len ha
    refine iteF ?_
    refine ⟨_, rfl, a, xs, rfl, .inr hs, _, _, rfl, rfl, _, rfl, ?_⟩
    refine ite2 (fun c => ?_) (fun c => ?_)
    · have c' : (8 : Int) < (xs.length : Int) := of_decide_eq_true c
      have e : rankOf (.tuple ds) = false := by
        show (decide (ds.length ≤ 8) && ds.all partB) = false
        rw [decide_eq_false (by omega)]
        rfl
      rw [e] at q
      exact q
    · have c' : ¬ (8 : Int) < (xs.length : Int) := fun z => c (decide_eq_true z)
      refine ⟨_, rfl, a, rfl, ⟨_, hs⟩, for_tup (K := K) (a := a) (xs := xs) (fun i σ H' => ∃ o1, σ = [some (.ref a), o1] ∧ H' = H ∧ (ds.take i).all partB = true) ⟨none, rfl, rfl, rfl⟩ (fun i σ H' _ ⟨_, _, e, _⟩ => by rw [e]; exact hs) ?_ ?_⟩
      · rintro i y σ H' hi ⟨o1, rfl, rfl, hg⟩
        obtain ⟨e, he, hy⟩ := dps_at ha hi
        have hil := (List.getElem?_eq_some_iff.mp he).1
        have et : ds.take (i + 1) = ds.take i ++ [e] := by rw [List.take_add_one, he]; rfl
        have bad : partB e = false → rankOf (.tuple ds) = false := fun z => by
          show (decide (ds.length ≤ 8) && ds.all partB) = false
          have : ds.all partB = false := List.all_eq_false.mpr ⟨e, List.mem_of_getElem? he, by rw [z]; simp⟩
          rw [this, Bool.and_false]
        have good : partB e = true → (ds.take (i + 1)).all partB = true := fun z => by
          rw [et, List.all_append, hg]
          simp [z]
        refine ⟨_, rfl, y, numOf e, rfl, num_dp hy, ⟨_, rfl, ?_⟩⟩
        cases hn : numOf e with
        | none =>
          refine iteT (iteT ?_)
          rw [bad (by unfold partB; rw [hn])] at q
          exact q
        | some z =>
          refine iteF ?_
          have hyz : y = .int z := by
            have := num_dp hy
            rw [hn] at this
            exact this
          subst hyz
          have ep : partB e = (decide (-rankB < z) && decide (z < rankB)) := by unfold partB; rw [hn]
          refine ⟨_, rfl, _, rfl, _, _, rfl, rfl, _, rfl, ?_⟩
          refine ite2 (fun c1 => ?_) (fun c1 => ?_)
          · have c1' : -rankB < z := of_decide_eq_true c1
            refine ⟨_, _, rfl, rfl, _, rfl, ?_⟩
            by_cases c2 : z < rankB
            · have e2 : (decide (z < rankB)) = true := decide_eq_true c2
              rw [e2]
              refine iteF ?_
              exact ⟨_, rfl, rfl, good (by rw [ep, decide_eq_true c1', e2]; rfl)⟩
            · have e2 : (decide (z < rankB)) = false := decide_eq_false c2
              rw [e2]
              refine iteT ?_
              rw [bad (by rw [ep, e2, Bool.and_false])] at q
              exact q
          · have c1' : ¬ -rankB < z := fun y => c1 (decide_eq_true y)
            refine ⟨_, rfl, ?_⟩
            refine iteT ?_
            rw [bad (by rw [ep, decide_eq_false c1']; rfl)] at q
            exact q
      · rintro σ H' ⟨o1, rfl, rfl, hg⟩
        rw [hl, List.take_length] at hg
        have e : rankOf (.tuple ds) = true := by
          show (decide (ds.length ≤ 8) && ds.all partB) = true
          rw [hg, decide_eq_true (by omega)]
          rfl
        rw [e] at q
        exact q
  · have e : (kindOf d == "tuple") = false := kind_tup_not fun ds z => ht ⟨ds, z⟩
    rw [e]
    refine iteT (iteT ?_)
    have e2 : rankOf d = false := by
      cases d with
      | tuple ds => exact absurd ⟨ds, rfl⟩ ht
      | _ => rfl
    rw [e2] at q
    exact q
end
end K26
set_option Elab.async false
set_option linter.all false
set_option maxRecDepth 100000
set_option maxHeartbeats 4000000
namespace K26
open PySem PySem.Spec PyProof.Rows L2 Dt
/-! ### the order of ranks -/
theorem lexAt_shift (e r : Nat → Bool) (z : Bool) : ∀ k i, Ob.lexAt e r z (i + 1) k = Ob.lexAt (fun j => e (j + 1)) (fun j => r (j + 1)) z i k
  | 0, _ => rfl
  | k + 1, i => by
    rw [Ob.lexAt_succ, Ob.lexAt_succ, lexAt_shift e r z k (i + 1)]
theorem le_lex : ∀ ns ms : List Int, Ob.lexAt (fun j => decide (ns.getD j 0 = ms.getD j 0)) (fun j => decide (ns.getD j 0 ≤ ms.getD j 0)) (decide (ns.length ≤ ms.length)) 0 (min ns.length ms.length) = !HT.lexLt ms ns
  | [], ms => by
    have e : min ([] : List Int).length ms.length = 0 := by simp
    rw [e, Ob.lexAt_zero]
    cases ms with
    | nil => rfl
    | cons y ms => rfl
  | n :: ns, [] => by
    have e : min (n :: ns).length ([] : List Int).length = 0 := by simp
    rw [e, Ob.lexAt_zero]
    show decide ((n :: ns).length ≤ 0) = !(HT.lexLt [] (n :: ns))
    rw [HT.lexLt_nil_cons]
    exact decide_eq_false (by simp)
  | n :: ns, m :: ms => by
    have e : min (n :: ns).length (m :: ms).length = min ns.length ms.length + 1 := by
      rw [List.length_cons, List.length_cons]
      omega
    have ih := le_lex ns ms
    rw [e, Ob.lexAt_succ, HT.lexLt_cons]
    show (if decide (n = m) = true then Ob.lexAt _ _ _ (0 + 1) (min ns.length ms.length) else decide (n ≤ m)) = _
    by_cases h : n = m
    · rw [if_pos (decide_eq_true h), if_pos h.symm, lexAt_shift, ← ih]
      have el : decide ((n :: ns).length ≤ (m :: ms).length) = decide (ns.length ≤ ms.length) := decide_eq_decide.mpr (by rw [List.length_cons, List.length_cons]; omega)
      rw [el]
      rfl
    · rw [if_neg (by rw [decide_eq_false h]; simp), if_neg (Ne.symm h)]
      by_cases h2 : n ≤ m
      · rw [decide_eq_true h2, decide_eq_false (show ¬ m < n by omega)]; rfl
      · rw [decide_eq_false h2, decide_eq_true (show m < n by omega)]; rfl
/-- the numbers of a rank -/
def rkInts : PyData → List Int | .tuple ds => ds.filterMap numOf | _ => []
theorem rank_ints {K : PySem.W.Frag} {H : Hp} : ∀ {xs : List V} {ds : List PyData}, DpAll K H xs ds → ds.all partB = true → xs = (ds.filterMap numOf).map V.int
  | _, _, .nil, _ => rfl
  | _, _, @DpAll.cons _ _ v vs d ds h q, g => by
    rw [List.all_cons, Bool.and_eq_true] at g
    have h2 := rank_ints q g.2
    have g1 := g.1
    unfold partB at g1
    have hn := num_dp h
    cases e : numOf d with
    | none =>
      rw [e] at g1
      exact nomatch g1
    | some i =>
      rw [e] at hn
      have hv : v = .int i := hn
      rw [List.filterMap_cons_some e, List.map_cons, ← h2, hv]
theorem rank_sqt {K : PySem.W.Frag} {H : Hp} {x : V} {d : PyData} (h : Dp K H x d) (g : rankOf d = true) : ∃ a, x = .ref a ∧ SqT K H a ((rkInts d).map V.int) := by
  cases h with
  | @tup a xs ds hs ha =>
    have g' : (decide (ds.length ≤ 8) && ds.all partB) = true := g
    rw [Bool.and_eq_true] at g'
    refine ⟨a, rfl, ?_⟩
    show SqT K H a ((ds.filterMap numOf).map V.int)
    rw [← rank_ints ha g'.2]
    exact hs
  | _ => exact nomatch g
/-! ### is_line -/
def lineGo (last : List Int) : List PyData → Bool
  | [] => true
  | .tuple [rk, _] :: r => rankOf rk && !HT.lexLt (rkInts rk) last && lineGo (rkInts rk) r
  | _ => false
def lineOf : PyData → Bool | .tuple ds => lineGo [] ds | _ => false
def spLine (K : PySem.W.Frag) : Sp := fun vs H Q _ => ∃ (x : V) (d : PyData), vs = [x] ∧ Dp K H x d ∧ ∀ H', Same H H' → Q (.bl (lineOf d)) H'
theorem lineGo_pair (last : List Int) (rk it : PyData) (r : List PyData) : lineGo last (.tuple [rk, it] :: r) = (rankOf rk && !HT.lexLt (rkInts rk) last && lineGo (rkInts rk) r) := by
  rw [lineGo]
theorem lineGo_bad (last : List Int) (e : PyData) (r : List PyData) (h : ∀ rk it, e ≠ .tuple [rk, it]) : lineGo last (e :: r) = false := by
  cases e with
  | tuple ds =>
    match ds, h with
    | [], _ => simp [lineGo]
    | [d1], _ => simp [lineGo]
    | [d1, d2], h => exact absurd rfl (h d1 d2)
    | d1 :: d2 :: d3 :: l, _ => simp [lineGo]
  | _ => simp [lineGo]
section
variable {P : Program} {w : World} {K : PySem.W.Frag} {mg : Str → Option Value} {base : Heap}
end
end K26
set_option Elab.async false
set_option linter.all false
set_option maxRecDepth 100000
set_option maxHeartbeats 4000000
namespace K26
open PySem PySem.Spec PyProof.Rows L2 Dt
/-! ### lines as they stand -/
/-- the rank of an entry, as numbers -/
def enInts : PyData → List Int | .tuple [rk, _] => rkInts rk | _ => []
def rksOf (ds : List PyData) : List (List Int) := ds.map enInts
def IsEn (d : PyData) : Prop := ∃ rk it, d = .tuple [rk, it] ∧ rankOf rk = true
theorem line_facts : ∀ (ds : List PyData) (last : List Int), lineGo last ds = true → (∀ d ∈ ds, IsEn d) ∧ (rksOf ds).Pairwise (fun p q => HT.lexLt q p = false) ∧ ∀ r ∈ rksOf ds, HT.lexLt r last = false
  | [], last, _ => ⟨(fun d h => by simp at h), List.Pairwise.nil, (fun r h => by simp [rksOf] at h)⟩
  | e :: ds, last, g => by
    by_cases he : ∃ rk it, e = .tuple [rk, it]
    · obtain ⟨rk, it, rfl⟩ := he
      rw [lineGo_pair] at g
      simp only [Bool.and_eq_true, Bool.not_eq_true'] at g
      obtain ⟨⟨g1, g2⟩, g3⟩ := g
      obtain ⟨h1, h2, h3⟩ := line_facts ds (rkInts rk) g3
      refine ⟨fun d hd => ?_, ?_, fun r hr => ?_⟩
      · rcases List.mem_cons.mp hd with rfl | hd
        · exact ⟨rk, it, rfl, g1⟩
        · exact h1 d hd
      · exact List.pairwise_cons.mpr ⟨fun r hr => h3 r hr, h2⟩
      · rcases List.mem_cons.mp (show r ∈ rkInts rk :: rksOf ds from hr) with rfl | hr
        · exact g2
        · exact NtL.lex_tr _ _ _ g2 (h3 r hr)
    · rw [lineGo_bad last e ds fun rk it z => he ⟨rk, it, z⟩] at g
      exact nomatch g
/-- p is where r goes: behind all that are not greater -/
structure PlaceIs (rs : List (List Int)) (r : List Int) (p : Nat) : Prop where
  le : p ≤ rs.length
  lo : ∀ i s, i < p → rs[i]? = some s → HT.lexLt r s = false
  hi : ∀ i s, p ≤ i → rs[i]? = some s → HT.lexLt r s = true
def spBehind (K : PySem.W.Frag) : Sp := fun vs H Q _ => ∃ (x y : V) (ds : List PyData) (rk : PyData), vs = [x, y] ∧ Dp K H x (.tuple ds) ∧ Dp K H y rk ∧ lineOf (.tuple ds) = true ∧ rankOf rk = true ∧ ds.length ≤ 1000000 ∧ ∀ p, PlaceIs (rksOf ds) (rkInts rk) p → Q (.int (p : Nat)) H
section
variable {P : Program} {w : World} {K : PySem.W.Frag} {mg : Str → Option Value} {base : Heap}
theorem ok_behind (D : DefAt K mg "place_behind" s_place_behind ["line", "rank"]) (T : Txt K mg) : CalX P w K mg base CX0 1 "place_behind" ["line", "rank"] (spBehind K) := by
  refine D.ok sc_place_behind (fun vs H Q E h => ?_) (fun f cdv A outer s H vs Q E hr h => ?_)
  · obtain ⟨x, y, ds, rk, rfl, _⟩ := h
    rfl
  obtain ⟨x, y, ds, rk, rfl, hx, hy, hline, hrk, hn, q⟩ := h
  obtain ⟨hen, hpw, _⟩ := line_facts ds [] hline
  obtain ⟨rb, rfl, hrb⟩ := rank_sqt hy hrk
  cases hx with
  | @tup a xs _ hs ha =>
  have hl := dps_len ha
  have hlr : (rksOf ds).length = ds.length := by simp [rksOf]
  refine ⟨_, pss_cons (ps_set (i := 2) sc_place_behind.nd rfl (.inl rfl) pe_int)
    (pss_cons (ps_set (i := 3) sc_place_behind.nd rfl (.inl rfl) (pe_callB call_len_seq (by rfl) T.len PySem.boot_len (pa_cons (pv 0) pa_nil)))
    (pss_cons (ps_while PassesOwn.never (pt_cmpR op_lt (pv 2) (pv 3) (nomark _))
      (pss_cons (ps_set (i := 4) sc_place_behind.nd rfl (.inl rfl) (pe_op op_fdiv (pe_op op_add (pv 2) (pv 3)) pe_int))
      (pss_one (ps_if (pt_cmpR (op_leT hr.units0) (pe_ix ix_tup (pe_ix ix_tup (pv 0) (pv 4) (fun _ _ => rfl)) pe_int (fun _ _ => rfl)) (pv 1) (nomark _))
        (pss_one (ps_set (i := 2) sc_place_behind.nd rfl (.inl rfl) (pe_op op_add (pv 4) pe_int)))
        (pss_one (ps_set (i := 3) sc_place_behind.nd rfl (.inl rfl) (pv 4)))))))
    (pss_one (ps_ret (pv 2))))), ?_⟩
  refine ⟨_, rfl, a, xs, rfl, .inr hs, ?_⟩
  rw [hl]
  refine ⟨fun m σ H' => ∃ (lo hi : Nat) (o4 : Option V), σ = [some (.ref a), some (.ref rb), some (.int (lo : Nat)), some (.int (hi : Nat)), o4] ∧ H' = H ∧ m = hi - lo ∧ lo ≤ hi ∧ hi ≤ ds.length ∧
    (∀ i s, i < lo → (rksOf ds)[i]? = some s → HT.lexLt (rkInts rk) s = false) ∧ (∀ i s, hi ≤ i → (rksOf ds)[i]? = some s → HT.lexLt (rkInts rk) s = true),
    ⟨ds.length, 0, ds.length, none, rfl, rfl, rfl, Nat.zero_le _, Nat.le_refl _, (fun i s h => absurd h (Nat.not_lt_zero _)), fun i s h e => absurd (List.getElem?_eq_some_iff.mp e).1 (by omega)⟩, ?_⟩
  rintro m σ H' ⟨lo, hi, o4, rfl, rfl, rfl, h1, h2, h3, h4⟩
  refine ⟨_, rfl, _, rfl, _, _, rfl, rfl, _, rfl, ?_⟩
  refine ite2 (fun c => ?_) (fun c => ?_)
  · have c' : ((lo : Nat) : Int) < (hi : Nat) := of_decide_eq_true c
    refine ⟨_, fun _ _ z => z, ?_⟩
    refine ⟨_, rfl, _, rfl, _, _, rfl, rfl, _, _, rfl, rfl, ⟨by decide, by decide⟩, ?_⟩
    have em : (((lo : Nat) : Int) + (hi : Nat)) / 2 = (((lo + hi) / 2 : Nat) : Int) := by omega
    have em2 : V.int ((((lo : Nat) : Int) + (hi : Nat)) / 2) = V.int (((lo + hi) / 2 : Nat) : Int) := by rw [em]
    rw [show ((fun i j => V.int (i / j)) (((lo : Nat) : Int) + (hi : Nat)) 2) = V.int (((lo + hi) / 2 : Nat) : Int) from em2]
    have hmid : (lo + hi) / 2 < ds.length := by omega
    generalize hme : (lo + hi) / 2 = mid at hmid
    have hxm : mid < xs.length := by omega
    obtain ⟨e, he, hxe⟩ := dps_at ha (List.getElem?_eq_getElem hxm)
    obtain ⟨rk', it, rfl, hrk'⟩ := hen e (List.mem_of_getElem? he)
    have hrs : (rksOf ds)[mid]? = some (rkInts rk') := by
      unfold rksOf
      rw [List.getElem?_map, he]
      rfl
    generalize hxv : xs[mid] = xv at hxe
    cases hxe with
    | @tup b ys _ hsb hab =>
    cases hab with
    | @cons v1 vr d1 dr g1 gr =>
    obtain ⟨ra, rfl, hra⟩ := rank_sqt g1 hrk'
    have hxat : xs[mid]? = some (.ref b) := by rw [List.getElem?_eq_getElem hxm, hxv]
    refine ⟨_, rfl, _, rfl, a, xs, _, _, rfl, rfl, hs, atI_nat hxat, b, (V.ref ra :: vr), 0, V.ref ra, rfl, rfl, hsb, (show atI (V.ref ra :: vr) ((0 : Nat) : Int) = some (V.ref ra) from atI_nat rfl), _, rfl, ra, rb, rkInts rk', rkInts rk, rfl, rfl, hra, hrb, _, rfl, ?_⟩
    rw [le_lex]
    have mono : ∀ i s j t, i < j → (rksOf ds)[i]? = some s → (rksOf ds)[j]? = some t → HT.lexLt t s = false := fun i s j t hij e1 e2 => by
      obtain ⟨l1, e1'⟩ := List.getElem?_eq_some_iff.mp e1
      obtain ⟨l2, e2'⟩ := List.getElem?_eq_some_iff.mp e2
      rw [← e1', ← e2']
      exact List.pairwise_iff_getElem.mp hpw i j l1 l2 hij
    cases hc : HT.lexLt (rkInts rk) (rkInts rk') with
    | false =>
      refine iteT ?_
      refine ⟨_, rfl, _, _, rfl, rfl, ?_⟩
      refine ⟨hi - (mid + 1), by omega, mid + 1, hi, _, rfl, rfl, rfl, by omega, h2, fun i s hi2 e1 => ?_, h4⟩
      by_cases z : i = mid
      · subst z
        rw [hrs] at e1
        rw [← Option.some.inj e1]
        exact hc
      · exact NtL.lex_tr _ _ _ (mono i s mid _ (by omega) e1 hrs) hc
    | true =>
      refine iteF ?_
      refine ⟨_, rfl, ?_⟩
      refine ⟨mid - lo, by omega, lo, mid, _, rfl, rfl, rfl, by omega, by omega, h3, fun i s hi2 e1 => ?_⟩
      by_cases z : i = mid
      · subst z
        rw [hrs] at e1
        rw [← Option.some.inj e1]
        exact hc
      · cases hq : HT.lexLt (rkInts rk) s with
        | true => rfl
        | false =>
          have z2 : HT.lexLt (rkInts rk) (rkInts rk') = false := NtL.lex_tr (rkInts rk') s (rkInts rk) (mono mid _ i s (by omega) hrs e1) hq
          rw [hc] at z2
          exact nomatch z2
  · have c' : ¬ ((lo : Nat) : Int) < (hi : Nat) := fun z => c (decide_eq_true z)
    have e : lo = hi := by omega
    subst e
    exact ⟨_, rfl, q lo ⟨by omega, h3, h4⟩⟩
end
end K26
set_option Elab.async false
set_option linter.all false
set_option maxRecDepth 100000
set_option maxHeartbeats 4000000
namespace K26
open PySem PySem.Spec PyProof.Rows L2 Dt
/-! ### copied -/
/-- lists, tuples and atoms, nested less than n deep, of at most 1000 parts each -/
def plainN : Nat → PyData → Prop
  | 0, _ => False
  | _ + 1, .none => True
  | _ + 1, .bool _ => True
  | _ + 1, .int _ => True
  | _ + 1, .str _ => True
  | n + 1, .tuple ds => ds.length ≤ 1000 ∧ ∀ d ∈ ds, plainN n d
  | n + 1, .list ds => ds.length ≤ 1000 ∧ ∀ d ∈ ds, plainN n d
  | _, _ => False
theorem dps_snoc {K : PySem.W.Frag} {H : Hp} : ∀ {vs : List V} {ds : List PyData} {v : V} {d : PyData}, DpAll K H vs ds → Dp K H v d → DpAll K H (vs ++ [v]) (ds ++ [d])
  | _, _, _, _, .nil, h => .cons h .nil
  | _, _, _, _, .cons r t, h => .cons r (dps_snoc t h)
mutual
theorem dp_off {K : PySem.W.Frag} {H : Hp} {l : Addr} (hl : H l = none) {H' : Hp} (e : Same H H') (u : HO) : ∀ {v : V} {d : PyData}, Dp K H v d → Dp K (upd H' l u) v d
  | _, _, .non => .non
  | _, _, .bl b => .bl b
  | _, _, .int i => .int i
  | _, _, .str z => .str z
  | _, _, .lst h q => .lst ((same_mut e hl).seq h) (dps_off hl e u q)
  | _, _, .tup h q => .tup (same_sqt (same_mut e hl) h) (dps_off hl e u q)
theorem dps_off {K : PySem.W.Frag} {H : Hp} {l : Addr} (hl : H l = none) {H' : Hp} (e : Same H H') (u : HO) : ∀ {v : List V} {d : List PyData}, DpAll K H v d → DpAll K (upd H' l u) v d
  | _, _, .nil => .nil
  | _, _, .cons h q => .cons (dp_off hl e u h) (dps_off hl e u q)
end
/-- y's data rests on objects alone that are not in H -/
def DpF (K : PySem.W.Frag) (H H' : Hp) (y : V) (d : PyData) : Prop := ∀ H2, (∀ b u, H b = none → H' b = some u → H2 b = some u) → Dp K H2 y d
theorem DpF.dp {K : PySem.W.Frag} {H H' : Hp} {y : V} {d : PyData} (h : DpF K H H' y d) : Dp K H' y d := h H' fun _ _ _ e => e
def spCopied (K : PySem.W.Frag) (n : Nat) : Sp := fun vs H Q _ => ∃ (x : V) (d : PyData), vs = [x] ∧ Dp K H x d ∧ plainN n d ∧ ∀ H' y, Same H H' → DpF K H H' y d → Q y H'
theorem kit_list {t : String} (h : t = "int" ∨ t = "bool" ∨ t = "NoneType" ∨ t = "str" ∨ t = "tuple" ∨ t = "list") : kitB t "list" = some (t == "list") := by
  rcases h with rfl | rfl | rfl | rfl | rfl | rfl <;> decide +kernel
/-- the copies of the first parts, made while D holds them -/
def Made (K : PySem.W.Frag) (H H' : Hp) (D : Addr) (acc : List V) (ds : List PyData) : Prop := ∀ H2, (∀ b u, H b = none → b ≠ D → H' b = some u → H2 b = some u) → DpAll K H2 acc ds
section
variable {P : Program} {w : World} {K : PySem.W.Frag} {mg : Str → Option Value} {base : Heap}
theorem Made.step {H H1 H2 : Hp} {D : Addr} {acc : List V} {ds : List PyData} {y : V} {d : PyData} (s : Same H H1) (hD : H1 D = some (.lst acc)) (s2 : Same H1 H2) (m : Made K H H1 D acc ds) (f : DpF K H1 H2 y d) : Made K H (upd H2 D (.lst (acc ++ [y]))) D (acc ++ [y]) (ds ++ [d]) := by
  intro H3 hk
  refine dps_snoc (m H3 fun b u h1 h2 h3 => hk b u h1 h2 ?_) (f H3 fun b u h1 h2 => ?_)
  · rw [upd_ne h2]
    exact s2 _ _ h3
  · have hb : b ≠ D := fun z => by rw [z, hD] at h1; exact nomatch h1
    exact hk b u (s.free h1) hb (by rw [upd_ne hb]; exact h2)
end
/-! ### put_place -/
def Out (U : Addr) (z : Str) (H : Hp) (E : XK) : Prop := ∀ d, H d = none → E (.ref U) (some d) (upd H d (xdO z (-1)))
def spPutPlace (K : PySem.W.Frag) (U : Addr) : Sp := fun vs H Q E => ∃ (x y : V) (d r : PyData), vs = [x, y] ∧ Dp K H x d ∧ Dp K H y r ∧ (∀ ds, d = .tuple ds → ds.length ≤ 1000000) ∧
  (lineOf d = false → ∀ H', Same H H' → Out U "line" H' E) ∧ (lineOf d = true → rankOf r = false → ∀ H', Same H H' → Out U "rank" H' E) ∧
  (∀ ds p H', d = .tuple ds → lineOf d = true → rankOf r = true → PlaceIs (rksOf ds) (rkInts r) p → Same H H' → Q (.int (p : Nat)) H')
end K26
set_option Elab.async false
set_option linter.all false
set_option maxRecDepth 100000
set_option maxHeartbeats 4000000
namespace K26
open PySem PySem.Spec PyProof.Rows L2 Dt
/-! ### a made tree -/
def Tree (K : PySem.W.Frag) (H : Hp) (C a : Addr) (T : Dt) : Prop := ∃ dx fv L S, TreeAt C H a dx fv L S ∧ Full K H T S ∧ ShV K H fv T ∧ T.nodes ≤ 1000
theorem Tree.same {K : PySem.W.Frag} {H H' : Hp} {C a : Addr} {T : Dt} (t : Tree K H C a T) (e : Same H H') : Tree K H' C a T := by
  obtain ⟨dx, fv, L, S, h1, h2, h3, h4⟩ := t
  exact ⟨dx, fv, L, S, h1.same e, fun i hi => Paired.mono (fun v q c => Cell.keep (KeepT.of_same e) i v q c) (h2 i hi), h3.keep (KeepT.of_same e), h4⟩
/-- the same, with lists that are new to H0 -/
def TN (K : PySem.W.Frag) (H0 H : Hp) (C a : Addr) (T : Dt) : Prop := ∃ dx fv L S, TreeAt C H a dx fv L S ∧ Full K H T S ∧ ShV K H fv T ∧ T.nodes ≤ 1000 ∧ ∀ i, i < 10 → H0 (L i) = none
theorem TN.same {K : PySem.W.Frag} {H0 H H' : Hp} {C a : Addr} {T : Dt} (t : TN K H0 H C a T) (e : Same H H') : TN K H0 H' C a T := by
  obtain ⟨dx, fv, L, S, h1, h2, h3, h4, h5⟩ := t
  exact ⟨dx, fv, L, S, h1.same e, fun i hi => Paired.mono (fun v q c => Cell.keep (KeepT.of_same e) i v q c) (h2 i hi), h3.keep (KeepT.of_same e), h4, h5⟩
theorem TN.from {K : PySem.W.Frag} {H0 H1 H : Hp} {C a : Addr} {T : Dt} (t : TN K H0 H C a T) (e : ∀ y, H0 y = none → H1 y = none) : TN K H1 H C a T := by
  obtain ⟨dx, fv, L, S, h1, h2, h3, h4, h5⟩ := t
  exact ⟨dx, fv, L, S, h1, h2, h3, h4, fun i hi => e _ (h5 i hi)⟩
theorem Paired.at {α β : Type} {F : α → β → Prop} : ∀ {l : List α} {m : List β}, Paired F l m → ∀ {i : Nat} {b : β}, m[i]? = some b → ∃ a, l[i]? = some a ∧ F a b
  | _, _, .nil, i, b, h => by simp at h
  | _, _, .cons r t, 0, b, h => by
    obtain rfl := Option.some.inj h
    exact ⟨_, rfl, r⟩
  | _, _, .cons r t, i + 1, b, h => Paired.at t (i := i) (b := b) (by simpa using h)
theorem idx_at {T : Dt} {p : Ad} (h : p ∈ ad T) : (ad T)[T.idx p]? = some p := by
  obtain ⟨u, hu⟩ := ad_sub h
  exact ad_at hu
theorem Full.node {K : PySem.W.Frag} {H : Hp} {T : Dt} {S : Nat → List V} (f : Full K H T S) {k : Nat} (hk : k < 8) {p : Ad} (hp : p ∈ ad T) : ∃ v, atI (S k) (T.idx p : Nat) = some v ∧ Cell K H T k v p := by
  have h := f k (by omega)
  unfold aof at h
  rw [if_pos hk] at h
  obtain ⟨v, h1, h2⟩ := Paired.at h (idx_at hp)
  exact ⟨v, atI_nat h1, h2⟩
theorem Full.len {K : PySem.W.Frag} {H : Hp} {T : Dt} {S : Nat → List V} (f : Full K H T S) {k : Nat} (hk : k < 8) : (S k).length = T.nodes := by
  have h := f k (by omega)
  unfold aof at h
  rw [if_pos hk] at h
  rw [Paired.len h, ad_len]
theorem Full.lenL {K : PySem.W.Frag} {H : Hp} {T : Dt} {S : Nat → List V} (f : Full K H T S) : (S 8).length = T.lf := by
  have h := f 8 (by omega)
  have : aof 8 = lv := rfl
  rw [this] at h
  exact Paired.len h
/-- a number that is below: an address -/
theorem below_ad {T : Dt} {o : Option Int} (h : belowB (T.nodes : Nat) o = true) : ∃ p, p ∈ ad T ∧ o = some (T.idx p : Nat) := by
  cases o with
  | none => exact nomatch h
  | some i =>
    have h' : (decide (0 ≤ i) && decide (i < (T.nodes : Nat))) = true := h
    rw [Bool.and_eq_true] at h'
    have h1 := of_decide_eq_true h'.1
    have h2 := of_decide_eq_true h'.2
    have h3 : i.toNat < (ad T).length := by rw [ad_len]; omega
    refine ⟨(ad T)[i.toNat], List.getElem_mem h3, ?_⟩
    rw [idx_of (List.getElem?_eq_getElem h3)]
    congr 1
    omega
theorem below_lv {T : Dt} {o : Option Int} (h : belowB (T.lf : Nat) o = true) : ∃ (i : Nat) (p : Ad), (lv T)[i]? = some p ∧ o = some (i : Nat) := by
  cases o with
  | none => exact nomatch h
  | some i =>
    have h' : (decide (0 ≤ i) && decide (i < (T.lf : Nat))) = true := h
    rw [Bool.and_eq_true] at h'
    have h1 := of_decide_eq_true h'.1
    have h2 := of_decide_eq_true h'.2
    have h3 : i.toNat < (lv T).length := by
      show i.toNat < T.lf
      omega
    refine ⟨i.toNat, (lv T)[i.toNat], List.getElem?_eq_getElem h3, ?_⟩
    congr 1
    omega
theorem ad_below {T : Dt} {p : Ad} (h : p ∈ ad T) : belowB (T.nodes : Nat) (some (T.idx p : Nat)) = true := by
  obtain ⟨u, hu⟩ := ad_sub h
  have h1 := idx_lt hu
  have h2 := u.nodes_pos
  show (decide ((0 : Int) ≤ (T.idx p : Nat)) && decide (((T.idx p : Nat) : Int) < (T.nodes : Nat))) = true
  rw [Bool.and_eq_true]
  exact ⟨decide_eq_true (by omega), decide_eq_true (by omega)⟩
section
variable {P : Program} {w : World} {K : PySem.W.Frag} {mg : Str → Option Value} {base : Heap} {C U fG : Addr}
def spNeedNode (K : PySem.W.Frag) (C U : Addr) : Sp := fun vs H Q E => ∃ a x o T z, vs = [.ref a, x, .str z] ∧ Tree K H C a T ∧ NumV K H x o ∧ (belowB (T.nodes : Nat) o = true → Q .non H) ∧ (belowB (T.nodes : Nat) o = false → Out U z H E)
def spNeedQueue (K : PySem.W.Frag) (C U : Addr) : Sp := fun vs H Q E => ∃ a x o T z, vs = [.ref a, x, .str z] ∧ Tree K H C a T ∧ NumV K H x o ∧ (belowB (T.lf : Nat) o = true → Q .non H) ∧ (belowB (T.lf : Nat) o = false → Out U z H E)
theorem ok_need_queue (D : DefAt K mg "need_queue" s_need_queue ["tree", "queue", "word"]) (T : Txt K mg) (TC : TCl K mg C fG) (GB : CalX P w K mg base CX0 3 "is_below" ["thing", "bound"] (spBelow K)) (GN : CalX P w K mg base (L2.CX P w) 3 "need" ["fits", "word"] (spNeed U)) :
    CalX P w K mg base (L2.CX P w) 4 "need_queue" ["tree", "queue", "word"] (spNeedQueue K C U) := by
  refine D.okX sc_need_queue (fun vs H Q E h => ?_) (fun f cdv A outer s H vs Q E hr h => ?_)
  · obtain ⟨a, x, o, t, z, rfl, _⟩ := h
    rfl
  obtain ⟨a, x, o, t, z, rfl, ⟨dx, fv, L, S, hT, hF, hV, h1⟩, hx, q1, q2⟩ := h
  refine ⟨_, pss_one (ps_expr (pe_cx GN hr (by decide) rfl (passes_call (takes_of rfl rfl rfl rfl) (fun _ _ _ _ h => h)) (pa_cons (pe_c0 GB hr (by decide) rfl (pa_cons (pv 1) (pa_cons (pe_callB call_len_seq (by rfl) T.len PySem.boot_len (pa_cons (pe_fld (pv 0) rfl) pa_nil)) pa_nil))) (pa_cons (pv 2) pa_nil)))), ?_⟩
  refine ⟨_, rfl, _, rfl, a, C, dx, _, _, rfl, hT.ob, TC.cl, TC.n8, stF_8 _ _, L 8, _, rfl, .inl (SqL.of (hT.ls 8 (by decide))), ?_⟩
  rw [hF.lenL]
  exact ⟨x, o, _, rfl, hx, _, rfl, _, z, rfl, q1, q2⟩
/-! ### shape_tree -/
def spShapeTree (K : PySem.W.Frag) (C U : Addr) : Sp := fun vs H Q E => ∃ (v : V) (t : Dt) (z : Str), vs = [v, .str z] ∧ DtV K H v t ∧ t.size ≤ 100000 ∧ (t.good 1 = true → t.ht < 20 ∧ t.nodes ≤ 1000 ∧ ∀ a H' (fr : Addr), Same H H' → TN K H H' C a t → H a = none → Tree K H' C a t → Q (.ref a) H') ∧
  (t.good 1 = false → ∀ H', Same H H' → Out U z H' E)
theorem ok_shapeTree {fC : Addr} {fdC : FuncData} (D : DefAt K mg "shape_tree" s_shape_tree ["form", "word"]) (M : Mk K C fC) (gC : mg "ShapeTree" = some (.ref C)) (bC : Binds K fdC ["self", "form"] []) (FC : FnOk P w K mg base (L2.CX P w) 21 fC fdC ["self", "form"] (spInit K C U 20))
    (GNS : CalX P w K mg base (L2.CX P w) 4 "need_shape" ["form", "word"] (spNeedShape K U)) : CalX P w K mg base (L2.CX P w) 23 "shape_tree" ["form", "word"] (spShapeTree K C U) := by
  refine D.okX sc_shape_tree (fun vs H Q E h => ?_) (fun f cdv A outer s H vs Q E hr h => ?_)
  · obtain ⟨v, t, z, rfl, _⟩ := h
    rfl
  obtain ⟨v, t, z, rfl, hv, hz, q1, q2⟩ := h
  refine ⟨_, pss_cons (ps_expr (pe_cx GNS hr (by decide) rfl (passes_call (takes_of rfl rfl rfl rfl) (fun _ _ _ _ h => h)) (pa_cons (pv 0) (pa_cons (pv 1) pa_nil))))
    (pss_one (ps_ret (pe_make M FC (hr.mono (by decide)) rfl gC bC .nil (passes_call (takes_of rfl rfl rfl rfl) (fun _ _ _ _ h => h)) (pa_cons (pv 0) pa_nil)))), ?_⟩
  refine ⟨_, rfl, _, rfl, v, t, z, rfl, hv, hz, fun g H1 s1 => ?_, fun g H1 d s1 hd => q2 g H1 s1 d hd⟩
  obtain ⟨p1, p2, p3⟩ := q1 g
  refine ⟨_, rfl, fun x dx hx hdx hne => ?_⟩
  have sx : Same H1 (upd (upd H1 dx (.own x)) x (.ins C dx [])) := fun y o h => by rw [upd_ne (ne_of_none h hx), upd_ne (ne_of_none h hdx)]; exact h
  refine ⟨x, dx, v, t, rfl, upd_same, same_dtv (s1.trans sx) hv, hz, fun _ => ⟨p1, p2, fun H2 L S TA kp F fr => ⟨rfl, ?_⟩⟩, fun bad => absurd (g.symm.trans bad) (by decide)⟩
  have sm : Same H1 H2 := fun y o h => kp y o (sx y o h) (ne_of_none h hx)
  have hsv : ShV K H2 v t := (same_dtv (s1.trans sm) hv).good g
  exact p3 x H2 x (s1.trans sm) ⟨dx, v, L, S, TA, F, hsv, p2, fun i hi => s1.free (sx.free (fr i hi))⟩ (s1.free hx) ⟨dx, v, L, S, TA, F, hsv, p2⟩
end
end K26
set_option Elab.async false
set_option linter.all false
set_option maxRecDepth 100000
set_option maxHeartbeats 4000000
namespace K26
open PySem PySem.Spec PyProof.Rows L2 Dt
/-! ### fit_path, are_ranks -/
def fitOf (n : Nat) (d : PyData) : Bool := match d with | .tuple ds => decide (ds.length = n) && ds.all rankOf | _ => false
def spFit (K : PySem.W.Frag) (C : Addr) : Sp := fun vs H Q _ => ∃ (a : Addr) (i : Nat) (x : V) (T : Dt) (p : Ad) (d : PyData), vs = [.ref a, .int (i : Nat), x] ∧ Tree K H C a T ∧ (lv T)[i]? = some p ∧ Dp K H x d ∧ (∀ ds, d = .tuple ds → ds.length ≤ 1000000) ∧ ∀ H', Same H H' → Q (.bl (fitOf (p.length + 1) d)) H'
def spAreRanks (K : PySem.W.Frag) (C U : Addr) : Sp := fun vs H Q E => ∃ (v x y : V) (t : Dt) (o : Option Int) (d : PyData), vs = [v, x, y] ∧ DtV K H v t ∧ t.size ≤ 100000 ∧ (t.good 1 = true → t.ht < 20 ∧ t.nodes ≤ 1000) ∧ NumV K H x o ∧ Dp K H y d ∧ (∀ ds, d = .tuple ds → ds.length ≤ 1000000) ∧
  (t.good 1 = false → ∀ H', Same H H' → Out U "form" H' E) ∧ (t.good 1 = true → belowB (t.lf : Nat) o = false → ∀ H', Same H H' → Out U "queue" H' E) ∧
  (t.good 1 = true → ∀ (i : Nat) p H', o = some (i : Nat) → (lv t)[i]? = some p → Same H H' → Q (.bl (fitOf (p.length + 1) d)) H')
theorem numV_same {K : PySem.W.Frag} {H H' : Hp} (e : Same H H') {x : V} {o : Option Int} (h : NumV K H x o) : NumV K H' x o := by
  cases o with
  | some i => exact h
  | none =>
    obtain ⟨t, h1, h2⟩ := h
    exact ⟨t, same_kind e h1, h2⟩
section
variable {P : Program} {w : World} {K : PySem.W.Frag} {mg : Str → Option Value} {base : Heap} {C U fG : Addr}
theorem ok_fit (D : DefAt K mg "fit_path" s_fit_path ["tree", "queue", "thing"]) (T : Txt K mg) (TC : TCl K mg C fG) (GR : CalX P w K mg base CX0 2 "is_rank" ["thing"] (spRank K)) : CalX P w K mg base CX0 3 "fit_path" ["tree", "queue", "thing"] (spFit K C) := by
  refine D.ok sc_fit_path (fun vs H Q E h => ?_) (fun f cdv A outer s H vs Q E hr h => ?_)
  · obtain ⟨a, i, x, t, p, d, rfl, _⟩ := h
    rfl
  obtain ⟨a, i, x, t, p, d, rfl, hTr, hp, hx, hn, q⟩ := h
  refine ⟨_, pss_cons (ps_if (PW.pt (pw_or (pt_not (pt_val (pe_callB call_isi (by rfl) T.isinstance boot_isinstance (pa_cons (pv 2) (pa_cons (pe_bltn (v := .ty "tuple") (by rfl) T.tuple PyProof.Rows.boot_tuple rfl) pa_nil)))))
        (pw_or1 (pt_cmpR op_ne (pe_callB call_len_seq (by rfl) T.len PySem.boot_len (pa_cons (pv 2) pa_nil)) (pe_callB call_len_seq (by rfl) T.len PySem.boot_len (pa_cons (pe_ix ix_list (pe_fld (pv 0) rfl) (pv 1) (fun _ _ => rfl)) pa_nil)) (nomark _))))) (pss_one (ps_ret pe_bl)) pss_nil)
    (pss_one (ps_ret (pe_callB (cr_all rfl) (by rfl) T.all (by decide +kernel) (pa_cons (pe_lc (own := [("rank", 3)]) (g := gName 3) (tt := tYes) (by rfl) sc_fit_path.nd (pi_tup (pv 2))
        (blkOk_by (own := [("rank", 3)]) (N := N_fit_path) (sc := defScope s_fit_path) (by decide +kernel)) (fun _ _ _ _ _ => pg_name (i := 3) sc_fit_path.nd rfl (Or.inl rfl)) (fun _ _ _ _ _ => pts_nil)
        (fun _ _ _ _ _ => by exact (pe_c0 GR hr (by decide) rfl (pa_cons (pv 3) pa_nil)))) pa_nil)))), ?_⟩
  have kx := kind_dp hx
  have sH : Same H H := fun _ _ z => z
  obtain ⟨dx, fv, L, S, hT, hF, hV, h1⟩ := id hTr
  have h9 := hF 9 (by decide)
  obtain ⟨v9, e9, b9, rfl, hb9⟩ := Paired.at h9 (show (aof 9 t)[i]? = some p from hp)
  refine isi_read rfl kx.1 (kit_tup kx.2) ⟨_, rfl, ?_⟩
  by_cases ht : ∃ ds, d = .tuple ds
  · obtain ⟨ds, rfl⟩ := ht
    cases hx with
    | @tup b xs _ hs ha =>
    have hl := dps_len ha
    have hsl := sizeLine_eq
    have hds := hn ds rfl
    refine iteF ?_
    refine ⟨_, rfl, b, xs, rfl, .inr hs, _, rfl, a, C, dx, _, _, rfl, hT.ob, TC.cl, TC.n9, stF_9 _ _, _, rfl, L 9, _, _, _, rfl, rfl, SqL.of (hT.ls 9 (by decide)), atI_nat e9, b9, _, rfl, .inr hb9, rfl, _, rfl, ?_⟩
    have el : (pth t p (p.length + 1)).length = p.length + 1 := by unfold pth; rw [List.length_map, List.length_range]
    rw [el, hl]
    by_cases c : ds.length = p.length + 1
    · rw [c]
      have e0 : (decide (V.int ((p.length + 1 : Nat) : Int) = V.int ((p.length + 1 : Nat) : Int))) = true := decide_eq_true rfl
      rw [e0]
      refine iteF ?_
      refine ⟨_, rfl, b, rfl, ⟨_, hs⟩, fun Dl hDl => lc_tup (K := K) (a := b) (xs := xs) (fun k H' => Same H H' ∧ H' Dl = some (.lst (((ds.take k).map rankOf).map V.bl))) ⟨same_new hDl, upd_same⟩ (fun k H' _ ⟨sm, _⟩ => same_sqt sm hs) ?_ ?_⟩
      · rintro k y H' hk ⟨sm, hD⟩
        obtain ⟨e, he, hy⟩ := dps_at ha hk
        have hkl := (List.getElem?_eq_some_iff.mp he).1
        refine ⟨rfl, _, rfl, y, e, rfl, dp_same sm hy, ?_⟩
        refine ⟨_, hD, ?_, same_mut sm hDl, ?_⟩
        · rw [List.length_map, List.length_map, List.length_take]
          omega
        · rw [upd_same, List.take_add_one, he, List.map_append, List.map_append]
          rfl
      · rintro H' ⟨sm, hD⟩
        rw [hl, List.take_length] at hD
        refine ⟨Dl, _, rfl, SqL.of hD, ?_⟩
        have e1 : fitOf (p.length + 1) (.tuple ds) = (ds.map rankOf).all id := by
          show (decide (ds.length = p.length + 1) && ds.all rankOf) = _
          rw [decide_eq_true c, Bool.true_and, List.all_map]
          rfl
        have := q H' sm
        rw [e1] at this
        exact this
    · have e0 : (decide (V.int (ds.length : Nat) = V.int ((p.length + 1 : Nat) : Int))) = false := decide_eq_false fun z => c (by injection z with z; omega)
      rw [e0]
      refine iteT ?_
      have := q H sH
      rw [show fitOf (p.length + 1) (.tuple ds) = false by show (decide (ds.length = p.length + 1) && ds.all rankOf) = false; rw [decide_eq_false c]; rfl] at this
      exact this
  · have e : (kindOf d == "tuple") = false := kind_tup_not fun ds z => ht ⟨ds, z⟩
    rw [e]
    refine iteT (iteT ?_)
    have e2 : fitOf (p.length + 1) d = false := by
      cases d with
      | tuple ds => exact absurd ⟨ds, rfl⟩ ht
      | _ => rfl
    have := q H sH
    rw [e2] at this
    exact this
end
end K26
set_option Elab.async false
set_option linter.all false
set_option maxRecDepth 100000
set_option maxHeartbeats 8000000
namespace K26
open PySem PySem.Spec PyProof.Rows L2 Dt
/-! ### the class Standing: its fields, its making -/
def packB : Int := 1152921504606846976
def stS (ta la sd : Addr) : List (Str × V) := [("tree", .ref ta), ("lines", .ref la), ("seats", .ref sd)]
structure StCl (K : PySem.W.Frag) (CS : Addr) : Prop where
  cl : Cls K CS
  nT : NoAttr K CS "tree"
  nL : NoAttr K CS "lines"
  nS : NoAttr K CS "seats"
/-- a standing: its tree, one list a node, the queues of its packets -/
structure Stand (K : PySem.W.Frag) (C CS : Addr) (H : Hp) (a dx ta la sd : Addr) (Ls : List Addr) (T : Dt) (xs : Nat → List V) (kv : List (Key × V)) : Prop where
  ob : H a = some (.ins CS dx (stS ta la sd))
  tr : Tree K H C ta T
  ln : H la = some (.lst (Ls.map V.ref))
  len : Ls.length = T.nodes
  li : ∀ i l, Ls[i]? = some l → H l = some (.lst (xs i))
  se : H sd = some (.dK kv)
  nd : (la :: Ls).Nodup
def spStInit (K : PySem.W.Frag) (C CS U : Addr) : Sp := fun vs H Q E => ∃ (a dx : Addr) (v : V) (t : Dt), vs = [.ref a, v] ∧ H a = some (.ins CS dx []) ∧ DtV K H v t ∧ t.size ≤ 100000 ∧
  (t.good 1 = true → t.ht < 20 ∧ t.nodes ≤ 1000 ∧ ∀ H' ta la sd Ls, Stand K C CS H' a dx ta la sd Ls t (fun _ => []) [] → (∀ y o, H y = some o → y ≠ a → H' y = some o) → H ta = none → H la = none → H sd = none → (∀ l ∈ Ls, H l = none) → Q .non H') ∧
  (t.good 1 = false → ∀ H', Same H H' → Out U "form" H' E)
theorem paired_len {α β : Type} {F : α → β → Prop} : ∀ {l : List α} {m : List β}, Paired F l m → l.length = m.length
  | _, _, .nil => rfl
  | _, _, .cons _ t => congrArg (· + 1) (paired_len t)
theorem Tree.put {K : PySem.W.Frag} {H : Hp} {C ta a : Addr} {T : Dt} (t : Tree K H C ta T) (CS dx : Addr) (fs : List (Str × V)) (ha : H a = some (.ins CS dx fs)) (ne : a ≠ ta) (fs' : List (Str × V)) : Tree K (upd H a (.ins CS dx fs')) C ta T := by
  obtain ⟨dx', fv, L, S, h1, h2, h3, h4⟩ := t
  have kt : KeepT H (upd H a (.ins CS dx fs')) := fun y ys => ⟨fun h => by
    rw [upd_ne]
    · exact h
    · intro e
      rw [e, ha] at h
      exact HO.noConfusion (Option.some.inj h), fun o h => by
    rw [upd_ne]
    · exact h
    · intro e
      rw [e, ha] at h
      exact HO.noConfusion (Option.some.inj h)⟩
  refine ⟨dx', fv, L, S, ⟨?_, fun i hi => ?_, h1.inj⟩, fun i hi => Paired.mono (fun v q c => Cell.keep kt i v q c) (h2 i hi), h3.keep kt, h4⟩
  · rw [upd_ne ne.symm]
    exact h1.ob
  · have := h1.ls i hi
    rw [upd_ne]
    · exact this
    · intro e
      rw [e, ha] at this
      exact HO.noConfusion (Option.some.inj this)
end K26
set_option Elab.async false
set_option linter.all false
set_option maxRecDepth 100000
set_option maxHeartbeats 8000000
namespace K26
open PySem PySem.Spec PyProof.Rows L2 Dt
abbrev st1 (ta : Addr) : List (Str × V) := [("tree", .ref ta)]
abbrev st2 (ta la : Addr) : List (Str × V) := [("tree", .ref ta), ("lines", .ref la)]
theorem lst_upd {H : Hp} {a CS dx : Addr} {fs fs' : List (Str × V)} {l : Addr} {xs : List V} (ha : H a = some (.ins CS dx fs)) (h : H l = some (.lst xs)) : (upd H a (.ins CS dx fs')) l = some (.lst xs) := by
  rw [upd_ne]
  · exact h
  · intro e
    rw [e, ha] at h
    exact HO.noConfusion (Option.some.inj h)
section
variable {P : Program} {w : World} {K : PySem.W.Frag} {mg : Str → Option Value} {base : Heap}
theorem ok_stInit {C CS U f fG : Addr} {fd : FuncData} (F : Fun K "__init__" "Standing.__init__" s_Standing_init f fd) (SC : StCl K CS) (TC : TCl K mg C fG)
    (GShapeTree : CalX P w K mg base (L2.CX P w) 23 "shape_tree" ["form", "word"] (spShapeTree K C U)) : FnOk P w K mg base (L2.CX P w) 24 f fd ["self", "form"] (spStInit K C CS U) := by
  refine F.okX sc_Standing_init (fun vs H Q E h => ?_) (fun cdv A outer s H vs Q E hr h => ?_)
  · obtain ⟨a, dx, v, t, rfl, _⟩ := h
    rfl
  obtain ⟨a, dx, v, t, rfl, ho, hv, hz, q1, q2⟩ := h
  refine ⟨_, pss_cons (ps_fld (pv 0) (pe_cx GShapeTree hr (by decide) rfl (passes_call (takes_of rfl rfl rfl rfl) (fun _ _ _ _ h => h)) (pa_cons (pv 1) (pa_cons pe_str pa_nil))) rfl)
    (pss_cons (ps_fld (pv 0) (pe_lc (own := [("_", 2)]) (g := gName 2) (tt := tYes) (by rfl) sc_Standing_init.nd (pi_list (pe_fld (pe_fld (pv 0) rfl) rfl)) (blkOk_by (own := [("_", 2)]) (N := N_Standing_init) (sc := defScope s_Standing_init) (by decide +kernel)) (fun _ _ _ _ _ => pg_name (i := 2) sc_Standing_init.nd rfl (Or.inl rfl)) (fun _ _ _ _ _ => pts_nil) (fun _ _ _ _ _ => by exact (pe_lst pa_nil))) rfl)
    (pss_one (ps_fld (pv 0) pe_dnewK rfl))), ?_⟩
  refine ⟨_, rfl, v, t, "form", rfl, hv, hz, fun g => ?_, fun g H' s => q2 g H' s⟩
  obtain ⟨g1, g2, k⟩ := q1 g
  refine ⟨g1, g2, fun ta H1 _ s1 _ hta hTr => ?_⟩
  have ho1 := s1 _ _ ho
  have nta : a ≠ ta := fun e => by
    rw [e, hta] at ho
    exact nomatch ho
  refine ⟨_, rfl, a, CS, dx, [], rfl, ho1, SC.cl, SC.nT, (by show 0 < 1000; decide), ?_⟩
  have T2 := hTr.put CS dx [] ho1 nta (putF "tree" (.ref ta) [])
  have ob2 : (upd H1 a (.ins CS dx (putF "tree" (.ref ta) []))) a = some (.ins CS dx (st1 ta)) := upd_same
  have kp2 : ∀ y o, H y = some o → y ≠ a → (upd H1 a (.ins CS dx (putF "tree" (.ref ta) []))) y = some o := fun y o h n => by
    rw [upd_ne n]
    exact s1 _ _ h
  revert T2 ob2 kp2
  generalize upd H1 a (.ins CS dx (putF "tree" (.ref ta) [])) = H2
  intro T2 ob2 kp2
  have T2' := T2
  obtain ⟨dx', fv, L, S, h1, h2, h3, h4⟩ := T2'
  have hlen : (S 2).length = t.nodes := by
    rw [Paired.len (h2 2 (by decide))]
    exact ad_len t
  refine ⟨_, rfl, a, CS, dx, _, _, rfl, ob2, SC.cl, SC.nT, rfl, ta, C, dx', _, _, rfl, h1.ob, TC.cl, TC.n2, stF_2 _ _, L 2, rfl, ⟨_, SqL.of (h1.ls 2 (by decide))⟩, fun Dl hDl => ?_⟩
  refine lc_list (K := K) (a := L 2) (xs := S 2) (fun j H' => Same H2 H' ∧ ∃ Ls : List Addr, H' Dl = some (.lst (Ls.map V.ref)) ∧ Ls.length = j ∧ (∀ l ∈ Ls, H' l = some (.lst []) ∧ H2 l = none) ∧ (Dl :: Ls).Nodup) ⟨same_new hDl, [], upd_same, rfl, (fun _ z => nomatch z), by simp⟩ (fun j H' _ hh => SqL.of (hh.1 _ _ (h1.ls 2 (by decide)))) ?_ ?_
  · rintro j x H' hj ⟨sm, Ls, hD, hl, hls, hnd⟩
    have hjl := (List.getElem?_eq_some_iff.mp hj).1
    refine ⟨rfl, (by show 0 ≤ sizeLine; decide), fun p hp => ?_⟩
    have npD : p ≠ Dl := fun e => by
      rw [e, hD] at hp
      exact nomatch hp
    have npL : p ∉ Ls := fun z => by
      rw [(hls p z).1] at hp
      exact nomatch hp
    obtain ⟨nd1, nd2⟩ := List.nodup_cons.mp hnd
    refine ⟨Ls.map V.ref, (same_new hp) _ _ hD, small1000 (by rw [List.length_map]; omega), same_mut (sm.trans (same_new hp)) hDl, Ls ++ [p], by rw [upd_same, List.map_append]; rfl, by rw [List.length_append]; show Ls.length + 1 = j + 1; omega, fun l hl2 => ?_, ?_⟩
    · rcases List.mem_append.mp hl2 with hl2 | hl2
      · obtain ⟨e1, e2⟩ := hls l hl2
        refine ⟨?_, e2⟩
        rw [upd_ne (fun e => nd1 (by rw [← e]; exact hl2))]
        exact (same_new hp) _ _ e1
      · obtain rfl := List.mem_singleton.mp hl2
        refine ⟨?_, sm.free hp⟩
        rw [upd_ne npD]
        exact upd_same
    · refine List.nodup_cons.mpr ⟨fun z => ?_, List.nodup_append.mpr ⟨nd2, by simp, fun x hx y hy e => ?_⟩⟩
      · rcases List.mem_append.mp z with z | z
        · exact nd1 z
        · exact npD (List.mem_singleton.mp z).symm
      · rw [List.mem_singleton.mp hy] at e
        exact npL (e ▸ hx)
  rintro H3 ⟨sm, Ls, hD, hl, hls, hnd⟩
  have ob3 := sm _ _ ob2
  have nDa : Dl ≠ a := fun e => by
    rw [e, ob2] at hDl
    exact nomatch hDl
  refine ⟨_, rfl, a, CS, dx, _, rfl, ob3, SC.cl, SC.nL, (by show 1 < 1000; decide), ?_⟩
  have T4 := (T2.same sm).put CS dx (st1 ta) ob3 nta (st2 ta Dl)
  have e4 : putF "lines" (.ref Dl) (st1 ta) = (st2 ta Dl) := putF_new (show ∀ g ∈ (["tree"] : List Str), ¬ g = "lines" by decide +kernel)
  rw [e4]
  have ob4 : (upd H3 a (.ins CS dx (st2 ta Dl))) a = some (.ins CS dx (st2 ta Dl)) := upd_same
  have hD4 := lst_upd (fs' := (st2 ta Dl)) ob3 hD
  have hls4 : ∀ l ∈ Ls, (upd H3 a (.ins CS dx (st2 ta Dl))) l = some (.lst []) := fun l h => lst_upd ob3 (hls l h).1
  have kp4 : ∀ y o, H y = some o → y ≠ a → (upd H3 a (.ins CS dx (st2 ta Dl))) y = some o := fun y o h n => by
    rw [upd_ne n]
    exact sm _ _ (kp2 y o h n)
  revert T4 ob4 hD4 hls4 kp4
  generalize upd H3 a (.ins CS dx (st2 ta Dl)) = H4
  intro T4 ob4 hD4 hls4 kp4
  refine fun sd hsd => ?_
  have s5 := same_new (o := .dK []) hsd
  have ob5 := s5 _ _ ob4
  refine ⟨_, rfl, a, CS, dx, _, rfl, ob5, SC.cl, SC.nS, (by show 2 < 1000; decide), ?_⟩
  have e6 : putF "seats" (.ref sd) (st2 ta Dl) = stS ta Dl sd := putF_new (show ∀ g ∈ (["tree", "lines"] : List Str), ¬ g = "seats" by decide +kernel)
  rw [e6]
  have nsa : sd ≠ a := fun e => by
    rw [e, ob4] at hsd
    exact nomatch hsd
  have free : ∀ l, H2 l = none → l ≠ a → H l = none := fun l h n => by
    cases e : H l with
    | none => rfl
    | some o =>
      rw [kp2 l o e n] at h
      exact nomatch h
  refine k _ ta Dl sd Ls ⟨upd_same, (T4.same s5).put CS dx _ ob5 nta _, lst_upd ob5 (s5 _ _ hD4), by rw [hl, hlen], fun i l hi => lst_upd ob5 (s5 _ _ (hls4 l (List.mem_of_getElem? hi))), ?_, hnd⟩ (fun y o h n => ?_) hta (free Dl hDl nDa) ?_ (fun l h => free l (hls l h).2 fun e => ?_)
  · rw [upd_ne nsa]
    exact upd_same
  · rw [upd_ne n]
    exact s5 _ _ (kp4 y o h n)
  · cases e : H sd with
    | none => rfl
    | some o =>
      rw [kp4 sd o e nsa] at hsd
      exact nomatch hsd
  · have := (hls l h).2
    rw [e, ob2] at this
    exact nomatch this
end
end K26
set_option Elab.async false
set_option linter.all false
set_option maxRecDepth 100000
set_option maxHeartbeats 4000000
namespace K26
open PySem PySem.Spec PyProof.Rows L2
/-! ### place_behind, for a list -/
def spBehindL (K : PySem.W.Frag) : Sp := fun vs H Q _ => ∃ (a : Addr) (y : V) (xs : List V) (ds : List PyData) (rk : PyData), vs = [.ref a, y] ∧ SqL K H a xs ∧ DpAll K H xs ds ∧ Dp K H y rk ∧ lineOf (.tuple ds) = true ∧ rankOf rk = true ∧ ds.length ≤ 1000000 ∧ ∀ p, PlaceIs (rksOf ds) (rkInts rk) p → Q (.int (p : Nat)) H
section
variable {P : Program} {w : World} {K : PySem.W.Frag} {mg : Str → Option Value} {base : Heap}
theorem ok_behindL (D : DefAt K mg "place_behind" s_place_behind ["line", "rank"]) (T : Txt K mg) : CalX P w K mg base CX0 1 "place_behind" ["line", "rank"] (spBehindL K) := by
  refine D.ok sc_place_behind (fun vs H Q E h => ?_) (fun f cdv A outer s H vs Q E hr h => ?_)
  · obtain ⟨a, y, xs, ds, rk, rfl, _⟩ := h
    rfl
  obtain ⟨a, y, xs, ds, rk, rfl, hs, ha, hy, hline, hrk, hn, q⟩ := h
  obtain ⟨hen, hpw, _⟩ := line_facts ds [] hline
  obtain ⟨rb, rfl, hrb⟩ := rank_sqt hy hrk
  have hl := dps_len ha
  have hlr : (rksOf ds).length = ds.length := by simp [rksOf]
  refine ⟨_, pss_cons (ps_set (i := 2) sc_place_behind.nd rfl (.inl rfl) pe_int)
    (pss_cons (ps_set (i := 3) sc_place_behind.nd rfl (.inl rfl) (pe_callB call_len_seq (by rfl) T.len PySem.boot_len (pa_cons (pv 0) pa_nil)))
    (pss_cons (ps_while PassesOwn.never (pt_cmpR op_lt (pv 2) (pv 3) (nomark _))
      (pss_cons (ps_set (i := 4) sc_place_behind.nd rfl (.inl rfl) (pe_op op_fdiv (pe_op op_add (pv 2) (pv 3)) pe_int))
      (pss_one (ps_if (pt_cmpR (op_leT hr.units0) (pe_ix ix_tup (pe_ix ix_list (pv 0) (pv 4) (fun _ _ => rfl)) pe_int (fun _ _ => rfl)) (pv 1) (nomark _))
        (pss_one (ps_set (i := 2) sc_place_behind.nd rfl (.inl rfl) (pe_op op_add (pv 4) pe_int)))
        (pss_one (ps_set (i := 3) sc_place_behind.nd rfl (.inl rfl) (pv 4)))))))
    (pss_one (ps_ret (pv 2))))), ?_⟩
  refine ⟨_, rfl, a, xs, rfl, .inl hs, ?_⟩
  rw [hl]
  refine ⟨fun m σ H' => ∃ (lo hi : Nat) (o4 : Option V), σ = [some (.ref a), some (.ref rb), some (.int (lo : Nat)), some (.int (hi : Nat)), o4] ∧ H' = H ∧ m = hi - lo ∧ lo ≤ hi ∧ hi ≤ ds.length ∧
    (∀ i s, i < lo → (rksOf ds)[i]? = some s → HT.lexLt (rkInts rk) s = false) ∧ (∀ i s, hi ≤ i → (rksOf ds)[i]? = some s → HT.lexLt (rkInts rk) s = true),
    ⟨ds.length, 0, ds.length, none, rfl, rfl, rfl, Nat.zero_le _, Nat.le_refl _, (fun i s h => absurd h (Nat.not_lt_zero _)), fun i s h e => absurd (List.getElem?_eq_some_iff.mp e).1 (by omega)⟩, ?_⟩
  rintro m σ H' ⟨lo, hi, o4, rfl, rfl, rfl, h1, h2, h3, h4⟩
  refine ⟨_, rfl, _, rfl, _, _, rfl, rfl, _, rfl, ?_⟩
  refine ite2 (fun c => ?_) (fun c => ?_)
  · have c' : ((lo : Nat) : Int) < (hi : Nat) := of_decide_eq_true c
    refine ⟨_, fun _ _ z => z, ?_⟩
    refine ⟨_, rfl, _, rfl, _, _, rfl, rfl, _, _, rfl, rfl, ⟨by decide, by decide⟩, ?_⟩
    have em : (((lo : Nat) : Int) + (hi : Nat)) / 2 = (((lo + hi) / 2 : Nat) : Int) := by omega
    have em2 : V.int ((((lo : Nat) : Int) + (hi : Nat)) / 2) = V.int (((lo + hi) / 2 : Nat) : Int) := by rw [em]
    rw [show ((fun i j => V.int (i / j)) (((lo : Nat) : Int) + (hi : Nat)) 2) = V.int (((lo + hi) / 2 : Nat) : Int) from em2]
    have hmid : (lo + hi) / 2 < ds.length := by omega
    generalize hme : (lo + hi) / 2 = mid at hmid
    have hxm : mid < xs.length := by omega
    obtain ⟨e, he, hxe⟩ := dps_at ha (List.getElem?_eq_getElem hxm)
    obtain ⟨rk', it, rfl, hrk'⟩ := hen e (List.mem_of_getElem? he)
    have hrs : (rksOf ds)[mid]? = some (rkInts rk') := by
      unfold rksOf
      rw [List.getElem?_map, he]
      rfl
    generalize hxv : xs[mid] = xv at hxe
    cases hxe with
    | @tup b ys _ hsb hab =>
    cases hab with
    | @cons v1 vr d1 dr g1 gr =>
    obtain ⟨ra, rfl, hra⟩ := rank_sqt g1 hrk'
    have hxat : xs[mid]? = some (.ref b) := by rw [List.getElem?_eq_getElem hxm, hxv]
    refine ⟨_, rfl, _, rfl, a, xs, _, _, rfl, rfl, hs, atI_nat hxat, b, (V.ref ra :: vr), 0, V.ref ra, rfl, rfl, hsb, (show atI (V.ref ra :: vr) ((0 : Nat) : Int) = some (V.ref ra) from atI_nat rfl), _, rfl, ra, rb, rkInts rk', rkInts rk, rfl, rfl, hra, hrb, _, rfl, ?_⟩
    rw [le_lex]
    have mono : ∀ i s j t, i < j → (rksOf ds)[i]? = some s → (rksOf ds)[j]? = some t → HT.lexLt t s = false := fun i s j t hij e1 e2 => by
      obtain ⟨l1, e1'⟩ := List.getElem?_eq_some_iff.mp e1
      obtain ⟨l2, e2'⟩ := List.getElem?_eq_some_iff.mp e2
      rw [← e1', ← e2']
      exact List.pairwise_iff_getElem.mp hpw i j l1 l2 hij
    cases hc : HT.lexLt (rkInts rk) (rkInts rk') with
    | false =>
      refine iteT ?_
      refine ⟨_, rfl, _, _, rfl, rfl, ?_⟩
      refine ⟨hi - (mid + 1), by omega, mid + 1, hi, _, rfl, rfl, rfl, by omega, h2, fun i s hi2 e1 => ?_, h4⟩
      by_cases z : i = mid
      · subst z
        rw [hrs] at e1
        rw [← Option.some.inj e1]
        exact hc
      · exact NtL.lex_tr _ _ _ (mono i s mid _ (by omega) e1 hrs) hc
    | true =>
      refine iteF ?_
      refine ⟨_, rfl, ?_⟩
      refine ⟨mid - lo, by omega, lo, mid, _, rfl, rfl, rfl, by omega, by omega, h3, fun i s hi2 e1 => ?_⟩
      by_cases z : i = mid
      · subst z
        rw [hrs] at e1
        rw [← Option.some.inj e1]
        exact hc
      · cases hq : HT.lexLt (rkInts rk) s with
        | true => rfl
        | false =>
          have z2 : HT.lexLt (rkInts rk) (rkInts rk') = false := NtL.lex_tr (rkInts rk') s (rkInts rk) (mono mid _ i s (by omega) hrs e1) hq
          rw [hc] at z2
          exact nomatch z2
  · have c' : ¬ ((lo : Nat) : Int) < (hi : Nat) := fun z => c (decide_eq_true z)
    have e : lo = hi := by omega
    subst e
    exact ⟨_, rfl, q lo ⟨by omega, h3, h4⟩⟩
end
end K26
set_option Elab.async false
set_option linter.all false
set_option maxRecDepth 100000
set_option maxHeartbeats 4000000
namespace L2
open PySem PySem.Spec PyProof.Rows
/-! ### zip(t, u, l): two tuples and a list -/
def Itz3 (K : PySem.W.Frag) (a b c : Addr) : It :=
  ⟨fun i H => ∃ (xs ys zs : List V) (x y u : V), SqT K H a xs ∧ SqT K H b ys ∧ SqL K H c zs ∧ xs[i]? = some x ∧ ys[i]? = some y ∧ zs[i]? = some u,
    fun i H v H' => ∃ T x y u, v = .ref T ∧ H T = none ∧ H' = upd H T (.tup [x, y, u]) ∧ (∀ xs, SqT K H a xs → xs[i]? = some x) ∧ (∀ ys, SqT K H b ys → ys[i]? = some y) ∧ ∀ zs, SqL K H c zs → zs[i]? = some u,
    fun i H => ∃ xs ys zs : List V, SqT K H a xs ∧ SqT K H b ys ∧ SqL K H c zs ∧ i ≤ xs.length ∧ i ≤ ys.length ∧ i ≤ zs.length ∧ (i = xs.length ∨ i = ys.length ∨ i = zs.length)⟩
theorem turn_zip3 {P : Program} {w : World} {K : PySem.W.Frag} {elts : List Expr} {kk : Nat} {tpos : Pos} {a b c z TI TO i1 i2 i3 : Addr} (D : ZipSep3 z TI TO i1 i2 i3 [i1, a] [i2, b] [i3, c]) (na : a ≠ i1) (nb : b ≠ i2) (nc : c ≠ i3) (n12 : i1 ≠ z ∧ i2 ≠ z ∧ i3 ≠ z) :
    Turn P w K (.Tuple elts kk tpos) (Itz3 K a b c) [z, TI, TO, i1, i2, i3] z (fun i h => IsZip h z TI TO .none ∧ IsTupOf3 h TI (.ref i1) (.ref i2) (.ref i3) ∧ (∃ x y u, IsTupOf3 h TO x y u) ∧ h.IsTupleIter i1 a i ∧ h.IsTupleIter i2 b i ∧ h.IsListIter i3 c i) where
  mem := by simp
  obj := fun i h st q hq => by
    obtain ⟨hz, hTI, ⟨x, y, u, hTO⟩, ⟨o1, e1, _, d1⟩, ⟨o2, e2, _, d2⟩, ⟨o3, e3, _, d3⟩⟩ := st
    have e' : q = z ∨ q = TI ∨ q = TO ∨ q = i1 ∨ q = i2 ∨ q = i3 := by simpa using hq
    rcases e' with e | e | e | e | e | e
    · rw [e]; exact ⟨_, hz, fun v q => nomatch q⟩
    · rw [e]; exact ⟨_, hTI, fun v q => nomatch q⟩
    · rw [e]; exact ⟨_, hTO, fun v q => nomatch q⟩
    · rw [e]; exact ⟨o1, e1, fun v q => by rw [d1] at q; cases q⟩
    · rw [e]; exact ⟨o2, e2, fun v q => by rw [d2] at q; cases q⟩
    · rw [e]; exact ⟨o3, e3, fun v q => by rw [d3] at q; cases q⟩
  keep := fun i h h' st k => by
    obtain ⟨hz, hTI, ⟨x, y, u, hTO⟩, h1, h2, h3⟩ := st
    exact ⟨k z (by simp) _ hz, k TI (by simp) _ hTI, ⟨x, y, u, k TO (by simp) _ hTO⟩, h1.at fun o q => k i1 (by simp) o q, h2.at fun o q => k i2 (by simp) o q, h3.at fun o q => k i3 (by simp) o q⟩
  item := by
    intro X hP hw hK hc i pins s σ H E I hf st hg
    subst hP hw hK
    obtain ⟨hz, hTI, ⟨x0, y0, u0, hTO⟩, h1, h2, h3⟩ := st
    obtain ⟨xs, ys, zs, x, y, u, hqx, hqy, hqz, hx, hy, hu⟩ := hg
    obtain ⟨its, rv, p, _⟩ := I.tuple hqx
    obtain ⟨its2, rv2, p2, _⟩ := I.tuple hqy
    obtain ⟨its3, rv3, p3, _⟩ := I.list hqz
    obtain ⟨v1, hv1, r1⟩ := rv.get hx
    obtain ⟨v2, hv2, r2⟩ := rv2.get hy
    obtain ⟨v3, hv3, r3⟩ := rv3.get hu
    have hzl : z < s.heap.objs.size := Heap.lt_size hz
    have hh := I.ok.hd hc
    have D1 := Draws.tuple (prog := X.prog) (w := X.w) (A := X.A.in1) hh i1 a na its.toArray
    have D2 := Draws.tuple (prog := X.prog) (w := X.w) (A := X.A.in1) hh i2 b nb its2.toArray
    have D3 := Draws.list (prog := X.prog) (w := X.w) (A := X.A.in1) hh i3 c nc its3.toArray
    refine wpAny_pyNext_zipD3_item D D1 D2 D3 hz hTI hTO ⟨h1, p⟩ ⟨h2, p2⟩ ⟨h3, p3.isList⟩ (by rw [List.size_toArray]; exact (List.getElem?_eq_some_iff.mp hv1).1) (by rw [List.size_toArray]; exact (List.getElem?_eq_some_iff.mp hv2).1) (by rw [List.size_toArray]; exact (List.getElem?_eq_some_iff.mp hv3).1) fun x1 x2 x3 h' tk P1 P2 P3 z' TO' s1' s2' s3' hT hsz hk => ?_
    have q1 : x1 = v1 := Option.some.inj ((show its.toArray[i]? = some x1 from P1).symm.trans (by simpa using hv1))
    have q2 : x2 = v2 := Option.some.inj ((show its2.toArray[i]? = some x2 from P2).symm.trans (by simpa using hv2))
    have q3 : x3 = v3 := Option.some.inj ((show its3.toArray[i]? = some x3 from P3).symm.trans (by simpa using hv3))
    subst q1 q2 q3
    refine ⟨_, rfl, wpAny_letOwnedTupleGo_zip (s := { s with heap := h', toks := tk }) z' fun h'' z'' sb => ?_⟩
    have hT2 : h''.get? s.heap.objs.size = some { cls := .type "tuple", data := .seq #[x1, x2, x3] } := (sb.2 _ (Nat.ne_of_gt hzl)).trans hT
    have new : ObjOk X.prog X.w (upd H s.heap.objs.size (.tup [x, y, u])) h'' s.heap.objs.size (.tup [x, y, u]) :=
      ⟨by show 3 ≤ sizeLine; decide, [x1, x2, x3], .cons r1 (.cons r2 (.cons r3 .nil)), ⟨_, hT2, rfl, _, rfl⟩⟩
    have I1 : Inv X pins σ (upd H s.heap.objs.size (.tup [x, y, u])) { s with heap := h'', toks := tk } :=
      I.turnedNew (t' := tk) (ch := [z, TI, TO, i1, i2, i3]) (fun q o hb e => (sb.2 q (fun q' => hb (by simp [q']))).trans (hk q o (fun q' => hb (by simp [q'])) (fun q' => hb (by simp [q'])) (fun q' => hb (by simp [q'])) (fun q' => hb (by simp [q'])) (fun q' => hb (by simp [q'])) e)) hf (Nat.le_refl _) new
    refine ⟨.ref s.heap.objs.size, _, I1, rfl, ⟨_, x, y, u, rfl, I.hok.fresh (Nat.le_refl _), rfl, fun l hl => by rw [I.tuple_inj hl hqx]; exact hx, fun l hl => by rw [I.tuple_inj hl hqy]; exact hy, fun l hl => by rw [I.list_inj hl hqz]; exact hu⟩, ⟨z'', ?_, ⟨x1, x2, x3, ?_⟩, ?_, ?_, ?_⟩, fun q hq => ?_⟩
    · exact (sb.2 _ D.TIz).trans (hk _ _ D.TIz D.TITO D.TIi1 D.TIi2 D.TIi3 hTI)
    · exact (sb.2 _ D.TOz).trans TO'
    · exact s1'.1.at fun o q => (sb.2 _ n12.1).trans q
    · exact s2'.1.at fun o q => (sb.2 _ n12.2.1).trans q
    · exact s3'.1.at fun o q => (sb.2 _ n12.2.2).trans q
    · have hlt : q < s.heap.objs.size := by
        have e' : q = z ∨ q = TI ∨ q = TO ∨ q = i1 ∨ q = i2 ∨ q = i3 := by simpa using hq
        rcases e' with e | e | e | e | e | e
        · rw [e]; exact hzl
        · rw [e]; exact Heap.lt_size hTI
        · rw [e]; exact Heap.lt_size hTO
        · rw [e]; obtain ⟨_, e1, _⟩ := h1; exact Heap.lt_size e1
        · rw [e]; obtain ⟨_, e1, _⟩ := h2; exact Heap.lt_size e1
        · rw [e]; obtain ⟨_, e1, _⟩ := h3; exact Heap.lt_size e1
      rw [upd_ne (Nat.ne_of_lt hlt)]
      exact (hf q hq).1
  done := by
    intro X hP hw hK hc i pins s σ H E I hf st hg
    subst hP hw hK
    obtain ⟨hz, hTI, ⟨x0, y0, u0, hTO⟩, h1, h2, h3⟩ := st
    obtain ⟨xs, ys, zs, hqx, hqy, hqz, l1, l2, l3, hend⟩ := hg
    obtain ⟨its, rv, p, _⟩ := I.tuple hqx
    obtain ⟨its2, rv2, p2, _⟩ := I.tuple hqy
    obtain ⟨its3, rv3, p3, _⟩ := I.list hqz
    have e1 := rv.length
    have e2 := rv2.length
    have e3 := rv3.length
    have hh := I.ok.hd hc
    have D1 := Draws.tuple (prog := X.prog) (w := X.w) (A := X.A.in1) hh i1 a na its.toArray
    have D2 := Draws.tuple (prog := X.prog) (w := X.w) (A := X.A.in1) hh i2 b nb its2.toArray
    have D3 := Draws.list (prog := X.prog) (w := X.w) (A := X.A.in1) hh i3 c nc its3.toArray
    refine wpAny_pyNext_zipD3_end D D1 D2 D3 hz hTI hTO ⟨h1, p⟩ ⟨h2, p2⟩ ⟨h3, p3.isList⟩ (by rw [List.size_toArray]; omega) (by rw [List.size_toArray]; omega) (by rw [List.size_toArray]; omega) (by rw [List.size_toArray, List.size_toArray, List.size_toArray]; omega) fun h' tk hk => ⟨rfl, I.turnedL (t' := tk) (ch := [z, TI, TO, i1, i2, i3]) (fun q o hb e =>
      hk q o (fun q' => hb (by simp [q'])) (fun q' => hb (by simp [q'])) (fun q' => hb (by simp [q'])) (fun q' => hb (by simp [q'])) (fun q' => hb (by simp [q'])) e) hf⟩
  self := fun A i s Q E st h => wpAny_pyIter_zip st.1 h
def iZip3 (K : PySem.W.Frag) (ta : TA) : TI := fun σ H R => ta σ H fun vs H1 => ∃ a b c xs ys zs, vs = [.ref a, .ref b, .ref c] ∧ SqT K H1 a xs ∧ SqT K H1 b ys ∧ SqL K H1 c zs ∧ R (Itz3 K a b c) H1
theorem pi_zip3 {X : Cx} {e e2 e3 : Expr} {ta : TA} {p pos tpos : Pos} {elts : List Expr} {kk : Nat} (hg : Gl X "zip") (hm : X.mg "zip" = none) (ha : PA X [e, e2, e3] ta)
    (hs : starEach [e, e2, e3] X.env = (false, eval e X.env) :: starEach [e2, e3] X.env := by rfl) (hpl : (backTo pos (starEach [e2, e3] X.env)).any (·.1) = false := by rfl) :
    PI X (.Tuple elts kk tpos) (.Call (.Name "zip" p) [e, e2, e3] [] pos) (iZip3 X.K ta) := by
  refine ⟨fun pins s σ H R I h => ?_⟩
  refine Call_ (ld_blt I hg hm PyProof.Rows.boot_zip (PyProof.Rows.callWith_type1 (thn (ha.run pos pins s σ H _ I h) fun us s1 ⟨vs, H1, I1, r1, q1⟩ => ?_) hs hpl))
  obtain ⟨a, b, c, xs, ys, zs, ex, hqx, hqy, hqz, q⟩ := q1
  subst ex
  cases r1 with
  | cons r rr =>
  cases rr with
  | cons r' rr =>
  cases rr with
  | cons r'' rr =>
  cases rr
  cases r
  cases r'
  cases r''
  obtain ⟨its, rv, p1, _⟩ := I1.tuple hqx
  obtain ⟨its2, rv2, p2, _⟩ := I1.tuple hqy
  obtain ⟨its3, rv3, p3, _⟩ := I1.list hqz
  have la : a < s1.heap.objs.size := by
    obtain ⟨o, ho, _⟩ := id p1
    exact Heap.lt_size ho
  have lb : b < s1.heap.objs.size := by
    obtain ⟨o, ho, _⟩ := id p2
    exact Heap.lt_size ho
  have lc : c < s1.heap.objs.size := p3.lt
  refine zip_begins3 (begins_tuple a its.toArray) (begins_tuple b its2.toArray) (begins_list c its3.toArray) p1 p2 p3.isList fun h' hz hTI hTO g1 g2 g3 hsz hk => wpAny_pyIter_zip hz ?_
  have I2 : Inv X pins σ H1 { s1 with heap := h' } := I1.kept (t' := s1.toks) hk
  have S := zip_sep3 (N := s1.heap.objs.size) (fp1 := [a]) (fp2 := [b]) (fp3 := [c]) (by simpa using la) (by simpa using lb) (by simpa using lc)
  refine ⟨s1.heap.objs.size + 5, [s1.heap.objs.size + 5, s1.heap.objs.size + 3, s1.heap.objs.size + 4, s1.heap.objs.size, s1.heap.objs.size + 1, s1.heap.objs.size + 2], _, _, H1, rfl, I2, turn_zip3 S (Nat.ne_of_lt la) (Nat.ne_of_lt (Nat.lt_succ_of_lt lb)) (Nat.ne_of_lt (Nat.lt_succ_of_lt (Nat.lt_succ_of_lt lc))) ⟨Nat.ne_of_lt (by omega), Nat.ne_of_lt (by omega), Nat.ne_of_lt (by omega)⟩, ⟨hz, hTI, ⟨_, _, _, hTO⟩, ⟨_, g1, rfl, rfl⟩, ⟨_, g2, rfl, rfl⟩, ⟨_, g3, rfl, rfl⟩⟩, fun d hd => ?_, q⟩
  have e' : d = s1.heap.objs.size + 5 ∨ d = s1.heap.objs.size + 3 ∨ d = s1.heap.objs.size + 4 ∨ d = s1.heap.objs.size ∨ d = s1.heap.objs.size + 1 ∨ d = s1.heap.objs.size + 2 := by simpa using hd
  have hle : s1.heap.objs.size ≤ d := by
    rcases e' with z | z | z | z | z | z
    · rw [z]; exact Nat.le_add_right _ _
    · rw [z]; exact Nat.le_add_right _ _
    · rw [z]; exact Nat.le_add_right _ _
    · rw [z]; exact Nat.le_refl _
    · rw [z]; exact Nat.le_add_right _ _
    · rw [z]; exact Nat.le_add_right _ _
  exact I1.fpOk hle (I1.hok.fresh hle)
/-- a loop over it, all of one length -/
theorem for_zip3 {K : PySem.W.Frag} {a b c : Addr} {xs ys zs : List V} {g : TG} {tb : TS} {D : Ends} {σ : L2.St} {H : Hp} (hl : xs.length = ys.length) (hl2 : xs.length = zs.length) (Pv : Nat → L2.St → Hp → Prop) (h0 : Pv 0 σ H) (hq : ∀ i σ H, Pv i σ H → SqT K H a xs ∧ SqT K H b ys ∧ SqL K H c zs)
    (hs : ∀ (i : Nat) (x y u : V) (T : Addr) (σ : L2.St) (H : Hp), xs[i]? = some x → ys[i]? = some y → zs[i]? = some u → Pv i σ H → H T = none → g (.ref T) σ (upd H T (.tup [x, y, u])) fun σ2 H2 => tb { D with nx := Pv (i + 1), ct := Pv (i + 1), bk := D.nx } σ2 H2) (hd : ∀ σ H, Pv xs.length σ H → D.nx σ H) :
    ∃ W : Nat → Nat → L2.St → Hp → Prop, (∃ m, W 0 m σ H) ∧ ∀ i m σ H, W i m σ H →
      ((Itz3 K a b c).stop i H ∧ D.nx σ H) ∨ ((Itz3 K a b c).go i H ∧ ∃ N : L2.St → Hp → Prop, (∀ σ' H', N σ' H' → ∃ m', m' < m ∧ W (i + 1) m' σ' H') ∧ ∀ v H', (Itz3 K a b c).yld i H v H' → g v σ H' fun σ2 H2 => tb { D with nx := N, ct := N, bk := D.nx } σ2 H2) := by
  refine ⟨fun i m σ H => m = xs.length - i ∧ i ≤ xs.length ∧ Pv i σ H, ⟨xs.length, rfl, Nat.zero_le _, h0⟩, ?_⟩
  rintro i m σ H ⟨rfl, hi, p⟩
  obtain ⟨qx, qy, qz⟩ := hq i σ H p
  by_cases hlt : i < xs.length
  · have hx : xs[i]? = some xs[i] := List.getElem?_eq_getElem hlt
    have hy : ys[i]? = some (ys[i]'(by omega)) := List.getElem?_eq_getElem (by omega)
    have hz : zs[i]? = some (zs[i]'(by omega)) := List.getElem?_eq_getElem (by omega)
    refine .inr ⟨⟨xs, ys, zs, _, _, _, qx, qy, qz, hx, hy, hz⟩, Pv (i + 1), fun σ' H' p' => ⟨xs.length - (i + 1), by omega, rfl, hlt, p'⟩, fun v H' y => ?_⟩
    obtain ⟨T, x', y', u', rfl, hT, rfl, f1, f2, f3⟩ := y
    exact hs i x' y' u' T σ H (f1 xs qx) (f2 ys qy) (f3 zs qz) p hT
  · have e : i = xs.length := by omega
    subst e
    exact .inl ⟨⟨xs, ys, zs, qx, qy, qz, Nat.le_refl _, Nat.le_of_eq hl, Nat.le_of_eq hl2, .inl rfl⟩, hd σ H p⟩
end L2
set_option Elab.async false
set_option linter.all false
set_option maxRecDepth 100000
set_option maxHeartbeats 4000000
namespace K26
open PySem PySem.Spec PyProof.Rows L2 Dt
/-! ### need_absent -/
def absentB (kv : List (Key × V)) (o : Option Int) : Bool := belowB packB o && (match o with | some i => !(valV kv (Sum.inl i : Key)).isSome | none => false)
def spAbsent (K : PySem.W.Frag) (CS U : Addr) : Sp := fun vs H Q E => ∃ (a dx ta la sd : Addr) (x : V) (o : Option Int) (kv : List (Key × V)), vs = [.ref a, x] ∧ H a = some (.ins CS dx (stS ta la sd)) ∧ H sd = some (.dK kv) ∧ NumV K H x o ∧
  (absentB kv o = true → Q .non H) ∧ (absentB kv o = false → ∀ H', Same H H' → Out U "number" H' E)
section
variable {P : Program} {w : World} {K : PySem.W.Frag} {mg : Str → Option Value} {base : Heap} {C CS U : Addr}
theorem ok_absent (D : DefAt K mg "need_absent" s_need_absent ["standing", "number"]) (SC : StCl K CS) (mp : ∃ t, mg "PACKET_BOUND" = some (.int packB t)) (GB : CalX P w K mg base CX0 3 "is_below" ["thing", "bound"] (spBelow K)) (GN : CalX P w K mg base (L2.CX P w) 3 "need" ["fits", "word"] (spNeed U)) :
    CalX P w K mg base (L2.CX P w) 4 "need_absent" ["standing", "number"] (spAbsent K CS U) := by
  obtain ⟨tk, mp⟩ := mp
  refine D.okX sc_need_absent (fun vs H Q E h => ?_) (fun f cdv A outer s H vs Q E hr h => ?_)
  · obtain ⟨a, dx, ta, la, sd, x, o, kv, rfl, _⟩ := h
    rfl
  obtain ⟨a, dx, ta, la, sd, x, o, kv, rfl, hob, hsd, hx, q1, q2⟩ := h
  have hu := hu_of hr
  refine ⟨_, pss_one (ps_expr (pe_cx GN hr (by decide) rfl (passes_call (takes_of rfl rfl rfl rfl) (fun _ _ _ _ h => h)) (pa_cons (pe_and (pe_c0 GB hr (by decide) rfl (pa_cons (pv 1) (pa_cons (pe_glob (v := .int packB) (by rfl) mp ⟨_, rfl⟩) pa_nil))) (pe_one (pe_cmp (pc_dnotin hu (pv 1) (pe_fld (pv 0) rfl))))) (pa_cons pe_str pa_nil)))), ?_⟩
  refine ⟨_, rfl, x, o, packB, rfl, hx, _, rfl, ?_⟩
  have fin : ∀ b, absentB kv o = b → spNeed U [.bl b, .str (Str.ofString "number")] H (fun _ H' => Q .non H') E := fun b hb => ⟨b, _, rfl, fun e => q1 (hb.trans e), fun e d hd => q2 (hb.trans e) H (fun _ _ z => z) d hd⟩
  cases hb : belowB packB o with
  | false =>
    refine iteF ?_
    exact fin false (by unfold absentB; rw [hb]; rfl)
  | true =>
    refine iteT ?_
    cases o with
    | none => exact nomatch hb
    | some i =>
      obtain rfl : x = .int i := hx
      refine ⟨_, rfl, _, rfl, a, CS, dx, _, _, rfl, hob, SC.cl, SC.nS, rfl, sd, _, rfl, .inl ⟨kv, (Sum.inl i : Key), .inl hsd, rfl, rfl⟩, ?_⟩
      refine fin _ ?_
      unfold absentB
      rw [hb]
      rfl
end
end K26
set_option Elab.async false
set_option linter.all false
set_option maxRecDepth 100000
set_option maxHeartbeats 4000000
namespace K26
open PySem PySem.Spec PyProof.Rows L2 Dt
/-! ### Standing: form_of, all_lines -/
def rTupQ (K : PySem.W.Frag) : List V → Hp → VK → Prop := fun xs H Q => ∃ p ys, xs = [.ref p] ∧ ((SqL K H p ys ∧ ∀ l, H l = none → Q (.ref l) (upd H l (.tup ys))) ∨ (SqT K H p ys ∧ Q (.ref p) H))
theorem call_tuple_ofK {X : Cx} {K : PySem.W.Frag} (hK : X.K = K) : CallR X (.type "tuple") (rTupQ K) := by
  subst hK
  exact call_tuple_of
def spStForm (K : PySem.W.Frag) (C CS : Addr) : Sp := fun vs H Q _ => ∃ (a dx ta la sd : Addr) (Ls : List Addr) (T : Dt) (xs : Nat → List V) (kv : List (Key × V)), vs = [.ref a] ∧ Stand K C CS H a dx ta la sd Ls T xs kv ∧ ∀ fv, ShV K H fv T → Q fv H
def spAllLines (K : PySem.W.Frag) (C CS : Addr) : Sp := fun vs H Q _ => ∃ (a dx ta la sd : Addr) (Ls : List Addr) (T : Dt) (xs : Nat → List V) (kv : List (Key × V)), vs = [.ref a] ∧ Stand K C CS H a dx ta la sd Ls T xs kv ∧ Ls.length ≤ 1000 ∧
  ∀ H' p (Ts : List Addr), Same H H' → H' p = some (.tup (Ts.map V.ref)) → Ts.length = Ls.length → (∀ i t, Ts[i]? = some t → H' t = some (.tup (xs i)) ∧ H t = none) → H p = none → Q (.ref p) H'
section
variable {P : Program} {w : World} {K : PySem.W.Frag} {mg : Str → Option Value} {base : Heap} {C CS U fG : Addr}
theorem ok_allLines {f : Addr} {fd : FuncData} (F : Fun K "all_lines" "Standing.all_lines" s_Standing_all_lines f fd) (T0 : Txt K mg) (SC : StCl K CS) : FnOk P w K mg base CX0 1 f fd ["self"] (spAllLines K C CS) := by
  refine F.ok sc_Standing_all_lines (fun vs H Q E h => ?_) (fun cdv A outer s H vs Q E hr h => ?_)
  · obtain ⟨a, dx, ta, la, sd, Ls, T, xs, kv, rfl, _⟩ := h
    rfl
  obtain ⟨a, dx, ta, la, sd, Ls, T, xs, kv, rfl, S, hn, q⟩ := h
  refine ⟨_, pss_one (ps_ret (pe_callTy call_tuple_of (by rfl) T0.tuple PyProof.Rows.boot_tuple (pa_cons (pe_lc (own := [("line", 1)]) (g := gName 1) (tt := tYes) (by rfl) sc_Standing_all_lines.nd (pi_list (pe_fld (pv 0) rfl)) (blkOk_by (own := [("line", 1)]) (N := N_Standing_all_lines) (sc := defScope s_Standing_all_lines) (by decide +kernel)) (fun _ _ _ _ _ => pg_name (i := 1) sc_Standing_all_lines.nd rfl (Or.inl rfl)) (fun _ _ _ _ _ => pts_nil) (fun _ _ _ _ _ => by exact (pe_callTy (call_tuple_ofK (K := K) (by exact rfl)) (by rfl) T0.tuple PyProof.Rows.boot_tuple (pa_cons (pv 1) pa_nil)))) pa_nil))), ?_⟩
  refine ⟨_, rfl, a, CS, dx, _, _, rfl, S.ob, SC.cl, SC.nL, rfl, la, rfl, ⟨_, SqL.of S.ln⟩, fun Dl hDl => ?_⟩
  refine lc_list (K := K) (a := la) (xs := Ls.map V.ref) (fun j H' => Same H H' ∧ ∃ Ts : List Addr, H' Dl = some (.lst (Ts.map V.ref)) ∧ Ts.length = j ∧ ∀ i t, Ts[i]? = some t → H' t = some (.tup (xs i)) ∧ H t = none) ⟨same_new hDl, [], upd_same, rfl, (fun i t z => nomatch z)⟩ (fun j H' _ hh => SqL.of (hh.1 _ _ S.ln)) ?_ ?_
  · rintro j x H' hj ⟨sm, Ts, hD, hl, hT⟩
    rw [List.getElem?_map] at hj
    obtain ⟨l, hlj, rfl⟩ := Option.map_eq_some_iff.mp hj
    have hjl := (List.getElem?_eq_some_iff.mp hlj).1
    refine ⟨rfl, _, rfl, l, _, rfl, .inl ⟨SqL.of (sm _ _ (S.li j l hlj)), fun p hp => ?_⟩⟩
    have npD : p ≠ Dl := fun e => by
      rw [e, hD] at hp
      exact nomatch hp
    have keep : ∀ t ys, H' t = some (.tup ys) → (upd (upd H' p (.tup (xs j))) Dl (.lst (Ts.map V.ref ++ [.ref p]))) t = some (.tup ys) := fun t ys h => by
      rw [upd_ne]
      · exact (same_new hp) _ _ h
      · intro e
        rw [e, hD] at h
        exact HO.noConfusion (Option.some.inj h)
    refine ⟨Ts.map V.ref, (same_new hp) _ _ hD, small1000 (by rw [List.length_map]; omega), same_mut (sm.trans (same_new hp)) hDl, Ts ++ [p], by rw [upd_same, List.map_append]; rfl, by rw [List.length_append]; show Ts.length + 1 = j + 1; omega, fun i t ht => ?_⟩
    by_cases c : i < Ts.length
    · rw [List.getElem?_append_left c] at ht
      exact ⟨keep t _ (hT i t ht).1, (hT i t ht).2⟩
    · have hi := (List.getElem?_eq_some_iff.mp ht).1
      rw [List.length_append] at hi
      have hi2 : i < Ts.length + 1 := hi
      obtain rfl : i = Ts.length := by omega
      rw [List.getElem?_append_right (Nat.le_refl _), Nat.sub_self] at ht
      obtain rfl := Option.some.inj ht
      rw [hl]
      refine ⟨?_, sm.free hp⟩
      rw [upd_ne npD]
      exact upd_same
  · rintro H2 ⟨sm, Ts, hD, hl, hT⟩
    rw [List.length_map] at hl
    refine ⟨Dl, _, rfl, .inl ⟨SqL.of hD, fun p hp => ?_⟩⟩
    exact q _ p Ts (sm.trans (same_new hp)) upd_same hl (fun i t ht => ⟨(same_new hp) _ _ (hT i t ht).1, (hT i t ht).2⟩) (sm.free hp)
end
end K26
set_option Elab.async false
set_option linter.all false
set_option maxRecDepth 100000
set_option maxHeartbeats 4000000
namespace K26
open PySem PySem.Spec PyProof.Rows L2
/-! ### an entry put in its place leaves a line -/
theorem line_of_facts : ∀ (ds : List PyData) (last : List Int), (∀ d ∈ ds, IsEn d) → (rksOf ds).Pairwise (fun p q => HT.lexLt q p = false) → (∀ r ∈ rksOf ds, HT.lexLt r last = false) → lineGo last ds = true
  | [], _, _, _, _ => rfl
  | e :: ds, last, h1, h2, h3 => by
    obtain ⟨rk, it, rfl, hr⟩ := h1 e (List.mem_cons_self ..)
    have e1 : rksOf (.tuple [rk, it] :: ds) = rkInts rk :: rksOf ds := rfl
    rw [e1] at h2 h3
    obtain ⟨p1, p2⟩ := List.pairwise_cons.mp h2
    rw [lineGo_pair, hr, h3 _ (List.mem_cons_self ..), line_of_facts ds (rkInts rk) (fun d hd => h1 d (List.mem_cons_of_mem _ hd)) p2 (fun r hr => p1 r hr)]
    rfl
def insD (ds : List PyData) (p : Nat) (e : PyData) : List PyData := ds.take p ++ [e] ++ ds.drop p
theorem lex_nil (xs : List Int) : HT.lexLt xs [] = false := by cases xs <;> rfl
theorem insert_line {ds : List PyData} {rk it : PyData} {p : Nat} (h : lineOf (.tuple ds) = true) (hr : rankOf rk = true) (hp : PlaceIs (rksOf ds) (rkInts rk) p) : lineOf (.tuple (insD ds p (.tuple [rk, it]))) = true := by
  obtain ⟨h1, h2, _⟩ := line_facts ds [] h
  have er : rksOf (insD ds p (.tuple [rk, it])) = (rksOf ds).take p ++ [rkInts rk] ++ (rksOf ds).drop p := by
    unfold insD rksOf
    rw [List.map_append, List.map_append, List.map_take, List.map_drop]
    rfl
  refine line_of_facts _ [] (fun d hd => ?_) ?_ fun r _ => lex_nil r
  · rcases List.mem_append.mp hd with hd | hd
    · rcases List.mem_append.mp hd with hd | hd
      · exact h1 d (List.mem_of_mem_take hd)
      · rw [List.mem_singleton.mp hd]
        exact ⟨rk, it, rfl, hr⟩
    · exact h1 d (List.mem_of_mem_drop hd)
  · rw [er]
    have hpair : ((rksOf ds).take p ++ (rksOf ds).drop p).Pairwise (fun p q => HT.lexLt q p = false) := by
      rw [List.take_append_drop]
      exact h2
    obtain ⟨a1, a2, a3⟩ := List.pairwise_append.mp hpair
    have low : ∀ s ∈ (rksOf ds).take p, HT.lexLt (rkInts rk) s = false := fun s hs => by
      obtain ⟨i, hi⟩ := List.mem_iff_getElem?.mp hs
      have hil := (List.getElem?_eq_some_iff.mp hi).1
      rw [List.length_take] at hil
      rw [List.getElem?_take_of_lt (by omega)] at hi
      exact hp.lo i s (by omega) hi
    have high : ∀ s ∈ (rksOf ds).drop p, HT.lexLt s (rkInts rk) = false := fun s hs => by
      obtain ⟨i, hi⟩ := List.mem_iff_getElem?.mp hs
      rw [List.getElem?_drop] at hi
      exact NtL.lex_asym _ _ (hp.hi (p + i) s (by omega) hi)
    rw [List.append_assoc]
    refine List.pairwise_append.mpr ⟨a1, List.pairwise_cons.mpr ⟨fun s hs => high s hs, a2⟩, fun s hs t ht => ?_⟩
    rcases List.mem_cons.mp ht with rfl | ht
    · exact low s hs
    · exact a3 s hs t ht
theorem place_count {rs : List (List Int)} {r : List Int} {p q : Nat} (h : PlaceIs rs r p) (g : PlaceIs rs r q) : p = q := by
  rcases Nat.lt_trichotomy p q with c | c | c
  · have hl : p < rs.length := Nat.lt_of_lt_of_le c g.le
    have e : rs[p]? = some (rs[p]'hl) := List.getElem?_eq_getElem hl
    have z1 := h.hi p _ (Nat.le_refl _) e
    rw [g.lo p _ c e] at z1
    exact nomatch z1
  · exact c
  · have hl : q < rs.length := Nat.lt_of_lt_of_le c h.le
    have e : rs[q]? = some (rs[q]'hl) := List.getElem?_eq_getElem hl
    have z1 := g.hi q _ (Nat.le_refl _) e
    rw [h.lo q _ c e] at z1
    exact nomatch z1
/-! ### a pushed packet: the lines along its way -/
/-- from lines to lines, an entry for each node of the way -/
inductive Pushed : (Nat → List PyData) → List (Nat × PyData × Int) → (Nat → List PyData) → Prop
  | nil (ds : Nat → List PyData) : Pushed ds [] ds
  | cons {ds es : Nat → List PyData} {n : Nat} {rk : PyData} {it : Int} {r : List (Nat × PyData × Int)} {p : Nat} (hp : PlaceIs (rksOf (ds n)) (rkInts rk) p) (t : Pushed (fun i => if i = n then insD (ds n) p (.tuple [rk, .int it]) else ds i) r es) : Pushed ds ((n, rk, it) :: r) es
theorem Pushed.lines {ds es : Nat → List PyData} {r : List (Nat × PyData × Int)} (h : Pushed ds r es) (hr : ∀ e ∈ r, rankOf e.2.1 = true) (hd : ∀ i, lineOf (.tuple (ds i)) = true) : ∀ i, lineOf (.tuple (es i)) = true := by
  induction h with
  | nil ds => exact hd
  | @cons ds es n rk it r p hp t ih =>
    refine ih (fun e he => hr e (List.mem_cons_of_mem _ he)) fun i => ?_
    dsimp only
    by_cases c : i = n
    · rw [if_pos c]
      exact insert_line (hd n) (hr _ (List.mem_cons_self ..)) hp
    · rw [if_neg c]
      exact hd i
end K26
set_option Elab.async false
set_option linter.all false
set_option maxRecDepth 100000
set_option maxHeartbeats 4000000
namespace K26
open PySem PySem.Spec PyProof.Rows L2 Dt
/-! data without lists: lists may change -/
mutual
def noL : PyData → Bool
  | .list _ => false
  | .dict _ => false
  | .tuple ds => noLs ds
  | .none => true
  | .bool _ => true
  | .int _ => true
  | .str _ => true
def noLs : List PyData → Bool
  | [] => true
  | d :: ds => noL d && noLs ds
end
theorem keep_sqt {K : PySem.W.Frag} {H H' : Hp} {a : Addr} {xs : List V} (k : KeepT H H') (h : SqT K H a xs) : SqT K H' a xs := by
  rcases h with (h | ⟨o, h⟩) | h
  · exact .inl (.inl ((k _ _).1 h))
  · exact .inl (.inr ⟨o, (k _ _).2 o h⟩)
  · exact .inr h
theorem dps_keep {K : PySem.W.Frag} {H H' : Hp} (k : KeepT H H') : ∀ {vs : List V} {ds : List PyData}, DpAll K H vs ds → noLs ds = true → DpAll K H' vs ds
  | _, _, .nil, _ => .nil
  | _, _, @DpAll.cons _ _ v vs d ds h q, n => by
    unfold noLs at n
    rw [Bool.and_eq_true] at n
    have hq := dps_keep k q n.2
    have n1 := n.1
    cases h with
    | tup hs ha =>
      unfold noL at n1
      exact .cons (.tup (keep_sqt k hs) (dps_keep k ha n1)) hq
    | non => exact .cons .non hq
    | bl b => exact .cons (.bl b) hq
    | int i => exact .cons (.int i) hq
    | str z => exact .cons (.str z) hq
    | lst _ _ =>
      unfold noL at n1
      exact nomatch n1
theorem dp_keep {K : PySem.W.Frag} {H H' : Hp} (k : KeepT H H') {v : V} {d : PyData} (h : Dp K H v d) (n : noL d = true) : Dp K H' v d := by
  have := dps_keep (vs := [v]) (ds := [d]) k (.cons h .nil) (by unfold noLs; rw [n]; unfold noLs; rfl)
  cases this with
  | cons h _ => exact h
def intsD (l : List Int) : PyData := .tuple (l.map PyData.int)
theorem noL_ints : ∀ l : List Int, noLs (l.map PyData.int) = true
  | [] => by unfold noLs; rfl
  | i :: l => by
    rw [List.map_cons]
    unfold noLs
    rw [noL_ints l]
    unfold noL
    rfl
theorem noL_ranks : ∀ rs : List (List Int), noLs (rs.map intsD) = true
  | [] => by unfold noLs; rfl
  | r :: rs => by
    rw [List.map_cons]
    unfold noLs
    rw [noL_ranks rs]
    unfold intsD noL
    rw [noL_ints]
    rfl

theorem noLs_app : ∀ a b : List PyData, noLs (a ++ b) = (noLs a && noLs b)
  | [], b => by
    show noLs b = (noLs [] && noLs b)
    unfold noLs
    rfl
  | d :: a, b => by
    have e1 : ∀ l, noLs (d :: l) = (noL d && noLs l) := fun l => by rw [noLs]
    rw [List.cons_append, e1, e1, noLs_app a b, Bool.and_assoc]
theorem noLs_take {p : Nat} {ds : List PyData} (h : noLs ds = true) : noLs (ds.take p) = true ∧ noLs (ds.drop p) = true := by
  have e := noLs_app (ds.take p) (ds.drop p)
  rw [List.take_append_drop, h] at e
  exact Bool.and_eq_true_iff.mp e.symm
theorem noL_rank {rk : PyData} (h : rankOf rk = true) : noL rk = true := by
  cases rk with
  | tuple ds =>
    have h' : (decide (ds.length ≤ 8) && ds.all partB) = true := h
    rw [Bool.and_eq_true] at h'
    unfold noL
    have g : ∀ l : List PyData, l.all partB = true → noLs l = true := by
      intro l
      induction l with
      | nil => intro _; unfold noLs; rfl
      | cons d l ih =>
        intro hl
        rw [List.all_cons, Bool.and_eq_true] at hl
        unfold noLs
        rw [ih hl.2, Bool.and_true]
        cases d with
        | int i => unfold noL; rfl
        | none => exact nomatch hl.1
        | bool _ => exact nomatch hl.1
        | str _ => exact nomatch hl.1
        | list _ => exact nomatch hl.1
        | tuple _ => exact nomatch hl.1
        | dict _ => exact nomatch hl.1
    exact g ds h'.2
  | _ => exact nomatch h
theorem noL_insert {ds : List PyData} {p : Nat} {rk : PyData} {it : Int} (h : noLs ds = true) (hr : rankOf rk = true) : noLs (insD ds p (.tuple [rk, .int it])) = true := by
  have e := noL_rank hr
  obtain ⟨h1, h2⟩ := noLs_take (p := p) h
  unfold insD
  rw [noLs_app, noLs_app, h1, h2]
  simp [noLs, noL, e]
/-- a standing whose lines hold these data -/
structure StD (K : PySem.W.Frag) (C CS : Addr) (H : Hp) (a dx ta la sd : Addr) (Ls : List Addr) (T : Dt) (ds : Nat → List PyData) (kv : List (Key × V)) : Prop where
  st : ∃ xs, Stand K C CS H a dx ta la sd Ls T xs kv ∧ ∀ i, i < T.nodes → DpAll K H (xs i) (ds i)
  ln : ∀ i, lineOf (.tuple (ds i)) = true
  no : ∀ i, noLs (ds i) = true
theorem Tree.keepL {K : PySem.W.Frag} {H H' : Hp} {C ta : Addr} {T : Dt} (t : Tree K H C ta T) (h : ∀ dx fv L S, TreeAt C H ta dx fv L S → TreeAt C H' ta dx fv L S) (k : KeepT H H') : Tree K H' C ta T := by
  obtain ⟨dx, fv, L, S, h1, h2, h3, h4⟩ := t
  exact ⟨dx, fv, L, S, h dx fv L S h1, fun i hi => Paired.mono (fun v q c => Cell.keep k i v q c) (h2 i hi), h3.keep k, h4⟩
end K26
set_option Elab.async false
set_option linter.all false
set_option maxRecDepth 100000
set_option maxHeartbeats 4000000
namespace K26
open PySem PySem.Spec PyProof.Rows L2
open Dt (sub sub_nil sub_app sub_one sub_pre)
/-! ### lines by addresses: orders, departures, pushes -/
abbrev En := List Int × Int
abbrev Lns := Ad → List En
def sh (j : Nat) (L : Lns) : Lns := fun q => L (j :: q)
def its (l : List En) : List Int := l.map (·.2)
def chs (l : List En) : List Nat := l.map fun e => e.2.toNat
def dropAt (o : Nat → List Int) (c : Nat) : Nat → List Int := fun j => if j = c then (o j).tail else o j
/-- each child gives the next of its order -/
def mrg : List Nat → (Nat → List Int) → List Int
  | [], _ => []
  | c :: cs, o => (o c).headD 0 :: mrg cs (dropAt o c)
theorem mrg_len : ∀ (cs : List Nat) (o : Nat → List Int), (mrg cs o).length = cs.length
  | [], _ => rfl
  | c :: cs, o => by
    show (mrg cs (dropAt o c)).length + 1 = _
    rw [mrg_len cs]
    rfl
def Enough (cs : List Nat) (o : Nat → List Int) : Prop := ∀ j, cs.count j ≤ (o j).length
theorem Enough.tail {c : Nat} {cs : List Nat} {o : Nat → List Int} (h : Enough (c :: cs) o) : Enough cs (dropAt o c) := fun j => by
  have := h j
  unfold dropAt
  by_cases e : j = c
  · subst e
    rw [if_pos rfl, List.length_tail]
    rw [List.count_cons_self] at this
    omega
  · rw [if_neg e]
    rw [List.count_cons_of_ne (Ne.symm e)] at this
    exact this
theorem Enough.head {c : Nat} {cs : List Nat} {o : Nat → List Int} (h : Enough (c :: cs) o) : ∃ x t, o c = x :: t := by
  have := h c
  rw [List.count_cons_self] at this
  cases e : o c with
  | nil =>
    rw [e] at this
    exact absurd this (by simp)
  | cons x t => exact ⟨x, t, rfl⟩
theorem mrg_mem : ∀ (cs : List Nat) (o : Nat → List Int), Enough cs o → ∀ x ∈ mrg cs o, ∃ j, j ∈ cs ∧ x ∈ o j
  | [], _, _, x, h => nomatch h
  | c :: cs, o, hn, x, h => by
    obtain ⟨y, t, ey⟩ := hn.head
    rcases List.mem_cons.mp (show x ∈ (o c).headD 0 :: mrg cs (dropAt o c) from h) with e | h
    · refine ⟨c, List.mem_cons_self .., ?_⟩
      rw [e, ey]
      exact List.mem_cons_self ..
    · obtain ⟨j, hj, hx⟩ := mrg_mem cs _ hn.tail x h
      refine ⟨j, List.mem_cons_of_mem _ hj, ?_⟩
      unfold dropAt at hx
      by_cases e : j = c
      · rw [if_pos e] at hx
        exact List.mem_of_mem_tail hx
      · rw [if_neg e] at hx
        exact hx
theorem mrg_filter2 (P : Int → Bool) : ∀ (cs : List Nat) (o : Nat → List Int) (j : Nat), Enough cs o → (∀ i, i ∈ cs → i ≠ j → ∀ x ∈ o i, P x = false) → (mrg cs o).filter P = ((o j).take (cs.count j)).filter P
  | [], _, _, _, _ => rfl
  | c :: cs, o, j, hn, hi => by
    obtain ⟨y, t, ey⟩ := hn.head
    have ih := mrg_filter2 P cs (dropAt o c) j hn.tail (fun i hic e x hx => by
      unfold dropAt at hx
      by_cases e2 : i = c
      · rw [if_pos e2] at hx
        exact hi i (List.mem_cons_of_mem _ hic) e x (List.mem_of_mem_tail hx)
      · rw [if_neg e2] at hx
        exact hi i (List.mem_cons_of_mem _ hic) e x hx)
    have e1 : mrg (c :: cs) o = y :: mrg cs (dropAt o c) := by
      show (o c).headD 0 :: _ = _
      rw [ey]
      rfl
    rw [e1, List.filter_cons, ih]
    by_cases e : c = j
    · subst e
      have : dropAt o c c = t := by
        unfold dropAt
        rw [if_pos rfl, ey]
        rfl
      rw [this, ey, List.count_cons_self, List.take_succ_cons, List.filter_cons]
    · have ny := hi c (List.mem_cons_self ..) e y (by rw [ey]; exact List.mem_cons_self ..)
      have : dropAt o c j = o j := by
        unfold dropAt
        rw [if_neg (Ne.symm e)]
      rw [ny, this, List.count_cons_of_ne e]
      rfl
theorem mrg_congr : ∀ (cs : List Nat) (o o' : Nat → List Int), (∀ j ∈ cs, o j = o' j) → mrg cs o = mrg cs o'
  | [], _, _, _ => rfl
  | c :: cs, o, o', h => by
    show (o c).headD 0 :: mrg cs (dropAt o c) = (o' c).headD 0 :: mrg cs (dropAt o' c)
    rw [h c (List.mem_cons_self ..), mrg_congr cs (dropAt o c) (dropAt o' c) fun j hj => by
      unfold dropAt
      rw [h j (List.mem_cons_of_mem _ hj)]]
theorem mrg_snoc (n : Int) : ∀ (cs : List Nat) (o : Nat → List Int) (j : Nat), Enough cs o → cs.count j = (o j).length → mrg (cs ++ [j]) (fun i => if i = j then o i ++ [n] else o i) = mrg cs o ++ [n]
  | [], o, j, hn, h => by
    have e : o j = [] := List.eq_nil_of_length_eq_zero (by rw [← h]; rfl)
    show [((fun i => if i = j then o i ++ [n] else o i) j).headD 0] = [n]
    simp [e]
  | c :: cs, o, j, hn, h => by
    obtain ⟨y, t, ey⟩ := hn.head
    have ih := mrg_snoc n cs (dropAt o c) j hn.tail (by
      unfold dropAt
      by_cases e : j = c
      · subst e
        rw [if_pos rfl, List.length_tail]
        rw [List.count_cons_self] at h
        omega
      · rw [if_neg e, ← h, List.count_cons_of_ne (Ne.symm e)])
    show ((if c = j then o c ++ [n] else o c).headD 0) :: mrg (cs ++ [j]) (dropAt (fun i => if i = j then o i ++ [n] else o i) c) = ((o c).headD 0 :: mrg cs (dropAt o c)) ++ [n]
    have e1 : (if c = j then o c ++ [n] else o c).headD 0 = (o c).headD 0 := by
      split
      · rw [ey]
        rfl
      · rfl
    have e2 : dropAt (fun i => if i = j then o i ++ [n] else o i) c = fun i => if i = j then dropAt o c i ++ [n] else dropAt o c i := by
      funext i
      unfold dropAt
      by_cases a : i = c
      · subst a
        dsimp only
        by_cases b : i = j
        · rw [if_pos rfl, if_pos b, if_pos b, if_pos rfl, ey]
          rfl
        · rw [if_pos rfl, if_neg b, if_neg b, if_pos rfl]
      · rw [if_neg a, if_neg a]
    rw [e1, e2, ih]
    rfl
/-! the order of a node -/
def ordK : Dt → Lns → Nat → List (List Int)
  | .c k r, L, j => (if k.len = 0 then its (L [j]) else mrg (chs (L [j])) fun i => (ordK k (sh j L) 0).getD i []) :: ordK r L (j + 1)
  | _, _, _ => []
def ord (u : Dt) (L : Lns) : List Int := if u.len = 0 then its (L []) else mrg (chs (L [])) fun i => (ordK u L 0).getD i []
theorem ordK_c (k r : Dt) (L : Lns) (j : Nat) : ordK (.c k r) L j = ord k (sh j L) :: ordK r L (j + 1) := by
  rw [ordK]
  rfl
theorem ordK_at : ∀ (u : Dt) (L : Lns) (j i : Nat) (k : Dt), u.kids[i]? = some k → (ordK u L j)[i]? = some (ord k (sh (j + i) L))
  | .x, _, _, _, _, h => by simp [Dt.kids] at h
  | .o, _, _, _, _, h => by simp [Dt.kids] at h
  | .c k r, L, j, 0, k', h => by
    have e : k = k' := by simpa [Dt.kids] using h
    rw [ordK_c, e]
    rfl
  | .c k r, L, j, i + 1, k', h => by
    rw [ordK_c, List.getElem?_cons_succ]
    have := ordK_at r L (j + 1) i k' (by simpa [Dt.kids] using h)
    rw [this, show j + 1 + i = j + (i + 1) by omega]
theorem ordK_len : ∀ (u : Dt) (L : Lns) (j : Nat), (ordK u L j).length = u.len
  | .x, _, _ => by simp [ordK, Dt.len]
  | .o, _, _ => by simp [ordK, Dt.len]
  | .c k r, L, j => by
    rw [ordK_c, List.length_cons, ordK_len r]
    rfl
/-- the order of child i -/
def ordC (u : Dt) (L : Lns) (i : Nat) : List Int := (ordK u L 0).getD i []
theorem ordC_at {u k : Dt} {L : Lns} {i : Nat} (h : u.kids[i]? = some k) : ordC u L i = ord k (sh i L) := by
  unfold ordC
  rw [List.getD_eq_getElem?_getD, ordK_at u L 0 i k h, Nat.zero_add]
  rfl
theorem ord_leaf {u : Dt} {L : Lns} (h : u.len = 0) : ord u L = its (L []) := if_pos h
theorem ord_fork {u : Dt} {L : Lns} (h : u.len ≠ 0) : ord u L = mrg (chs (L [])) (ordC u L) := if_neg h
theorem ord_length (u : Dt) (L : Lns) : (ord u L).length = (L []).length := by
  by_cases h : u.len = 0
  · rw [ord_leaf h]
    exact List.length_map ..
  · rw [ord_fork h, mrg_len]
    exact List.length_map ..
theorem kid_of {u : Dt} {j : Nat} (h : j < u.len) : ∃ k, u.kids[j]? = some k := ⟨_, List.getElem?_eq_getElem (by rw [Dt.kids_len]; exact h)⟩
theorem kid_lt {u k : Dt} {j : Nat} (h : u.kids[j]? = some k) : j < u.len := by
  rw [← Dt.kids_len]
  exact (List.getElem?_eq_some_iff.mp h).1
theorem sub_kid {u k : Dt} {j : Nat} (h : u.kids[j]? = some k) (q : Ad) : sub u (j :: q) = sub k q := by
  have h1 := sub_one u j
  rw [h] at h1
  exact (sub_app u [j] k h1 q).1
theorem sub_len {u w : Dt} {j : Nat} {q : Ad} (h : sub u (j :: q) = some w) : ∃ k, u.kids[j]? = some k ∧ sub k q = some w := by
  obtain ⟨k, hk⟩ := sub_pre u [j] q w h
  have h1 := sub_one u j
  rw [h1] at hk
  exact ⟨k, hk, by rw [← sub_kid hk]; exact h⟩
/-- each fork's line has its children as often as these have entries -/
structure Con (u : Dt) (L : Lns) : Prop where
  it : ∀ q w, sub u q = some w → w.len ≠ 0 → ∀ e ∈ L q, ∃ j, j < w.len ∧ e.2 = (j : Nat)
  ct : ∀ q w j, sub u q = some w → j < w.len → (chs (L q)).count j = (L (q ++ [j])).length
theorem Con.kid {u k : Dt} {L : Lns} (c : Con u L) {j : Nat} (h : u.kids[j]? = some k) : Con k (sh j L) :=
  ⟨fun q w hw => c.it (j :: q) w (by rw [sub_kid h]; exact hw), fun q w i hw hi => c.ct (j :: q) w i (by rw [sub_kid h]; exact hw) hi⟩
theorem Con.chs_lt {u : Dt} {L : Lns} (c : Con u L) (h : u.len ≠ 0) : ∀ j ∈ chs (L []), j < u.len := fun j hj => by
  obtain ⟨e, he, rfl⟩ := List.mem_map.mp hj
  obtain ⟨i, hi, ei⟩ := c.it [] u (sub_nil u) h e he
  rw [ei]
  exact hi
theorem Con.enough {u : Dt} {L : Lns} (c : Con u L) (h : u.len ≠ 0) : Enough (chs (L [])) (ordC u L) := fun j => by
  by_cases hj : j < u.len
  · obtain ⟨k, hk⟩ := kid_of hj
    rw [ordC_at hk, ord_length, c.ct [] u j (sub_nil u) hj]
    exact Nat.le_refl _
  · rw [List.count_eq_zero.mpr fun z => hj (c.chs_lt h j z)]
    exact Nat.zero_le _
theorem Con.exact {u : Dt} {L : Lns} (c : Con u L) {j : Nat} (hj : j < u.len) : (chs (L [])).count j = (ordC u L j).length := by
  obtain ⟨k, hk⟩ := kid_of hj
  rw [ordC_at hk, ord_length, c.ct [] u j (sub_nil u) hj]
  rfl
theorem kid_sz : ∀ {u k : Dt} {j : Nat}, u.kids[j]? = some k → k.size + 1 ≤ u.size
  | .x, _, _, h => by simp [Dt.kids] at h
  | .o, _, _, h => by simp [Dt.kids] at h
  | .c k r, k', 0, h => by
    have e : k = k' := by simpa [Dt.kids] using h
    subst e
    show k.size + 1 ≤ k.size + r.size + 1
    omega
  | .c k r, k', j + 1, h => by
    have := kid_sz (u := r) (k := k') (j := j) (by simpa [Dt.kids] using h)
    show k'.size + 1 ≤ k.size + r.size + 1
    omega
theorem ord_mem : ∀ (d : Nat) (u : Dt) (L : Lns), u.size ≤ d → Con u L → ∀ x ∈ ord u L, ∃ p w, sub u p = some w ∧ w.len = 0 ∧ x ∈ its (L p)
  | 0, u, L, hd, _, x, h => by cases u <;> simp [Dt.size] at hd
  | d + 1, u, L, hd, c, x, h => by
    by_cases hl : u.len = 0
    · rw [ord_leaf hl] at h
      exact ⟨[], u, sub_nil u, hl, h⟩
    · rw [ord_fork hl] at h
      obtain ⟨j, hj, hx⟩ := mrg_mem _ _ (c.enough hl) x h
      obtain ⟨k, hk⟩ := kid_of (c.chs_lt hl j hj)
      rw [ordC_at hk] at hx
      obtain ⟨p, w, h1, h2, h3⟩ := ord_mem d k (sh j L) (by have := kid_sz hk; omega) (c.kid hk) x hx
      exact ⟨j :: p, w, by rw [sub_kid hk]; exact h1, h2, h3⟩
/-- what of the order lies beneath q is the order of q -/
theorem ord_filter (P : Int → Bool) : ∀ (q : Ad) (u v : Dt) (L : Lns), sub u q = some v → Con u L → (∀ p w, sub u p = some w → w.len = 0 → ∀ x ∈ its (L p), P x = decide (q <+: p)) → (ord u L).filter P = ord v fun r => L (q ++ r)
  | [], u, v, L, hq, c, h => by
    rw [sub_nil] at hq
    obtain rfl := Option.some.inj hq
    refine List.filter_eq_self.mpr fun x hx => ?_
    obtain ⟨p, w, h1, h2, h3⟩ := ord_mem _ u L (Nat.le_refl _) c x hx
    rw [h p w h1 h2 x h3]
    exact decide_eq_true (List.nil_prefix ..)
  | j :: q, u, v, L, hq, c, h => by
    obtain ⟨k, hk, hq2⟩ := sub_len hq
    have hj := kid_lt hk
    have hl : u.len ≠ 0 := by omega
    have ih := ord_filter P q k v (sh j L) hq2 (c.kid hk) fun p w h1 h2 x hx => by
      rw [h (j :: p) w (by rw [sub_kid hk]; exact h1) h2 x hx]
      congr 1
      simp
    have hin : ∀ i, i < u.len → ∀ x ∈ ordC u L i, ∃ p, P x = decide ((j :: q) <+: (i :: p)) := fun i hi x hx => by
      obtain ⟨k', hk'⟩ := kid_of hi
      rw [ordC_at hk'] at hx
      obtain ⟨p, w, h1, h2, h3⟩ := ord_mem _ k' (sh i L) (Nat.le_refl _) (c.kid hk') x hx
      exact ⟨p, h (i :: p) w (by rw [sub_kid hk']; exact h1) h2 x h3⟩
    rw [ord_fork hl]
    have e : (mrg (chs (L [])) (ordC u L)).filter P = (ordC u L j).filter P := by
      have g := mrg_filter2 P (chs (L [])) (ordC u L) j (c.enough hl) (fun i hi e x hx => by
        obtain ⟨p, hp⟩ := hin i (c.chs_lt hl i hi) x hx
        rw [hp]
        refine decide_eq_false fun z => ?_
        rw [List.cons_prefix_cons] at z
        exact e z.1.symm) 
      rw [g, c.exact hj, List.take_length]
    rw [e, ordC_at hk, ih]
    rfl
/-! departures -/
structure Dep (u : Dt) (L : Lns) (n : Int) (p : Ad) (rs : List (List Int)) : Prop where
  lf : ∃ w, sub u p = some w ∧ w.len = 0
  hd : ∀ k j, p[k]? = some j → ∃ r t, L (p.take k) = (r, ((j : Nat) : Int)) :: t ∧ rs[k]? = some r
  la : ∃ r t, L p = (r, n) :: t ∧ rs[p.length]? = some r
  len : rs.length = p.length + 1
def cutL (p : Ad) (L : Lns) : Lns := fun q => if q <+: p then (L q).tail else L q
theorem cutL_nil (p : Ad) (L : Lns) : cutL p L [] = (L []).tail := if_pos (List.nil_prefix ..)
theorem sh_cut (j : Nat) (p : Ad) (L : Lns) : sh j (cutL (j :: p) L) = cutL p (sh j L) := by
  funext q
  unfold sh cutL
  by_cases h : q <+: p
  · rw [if_pos h, if_pos (by rw [List.cons_prefix_cons]; exact ⟨rfl, h⟩)]
  · rw [if_neg h, if_neg (by rw [List.cons_prefix_cons]; exact fun z => h z.2)]
theorem sh_cut_ne {i j : Nat} (h : i ≠ j) (p : Ad) (L : Lns) : sh i (cutL (j :: p) L) = sh i L := by
  funext q
  unfold sh cutL
  rw [if_neg (by rw [List.cons_prefix_cons]; exact fun z => h z.1)]
theorem Dep.kid {u k : Dt} {L : Lns} {n : Int} {j : Nat} {p : Ad} {r : List Int} {rs : List (List Int)} (d : Dep u L n (j :: p) (r :: rs)) (h : u.kids[j]? = some k) : Dep k (sh j L) n p rs := by
  obtain ⟨⟨w, h1, h2⟩, h3, ⟨r', t, h4, h5⟩, h6⟩ := d
  refine ⟨⟨w, by rw [← sub_kid h]; exact h1, h2⟩, fun i j' hj' => ?_, ⟨r', t, h4, by simpa using h5⟩, by simpa using h6⟩
  obtain ⟨r2, t2, e1, e2⟩ := h3 (i + 1) j' (by simpa using hj')
  exact ⟨r2, t2, by simpa [sh] using e1, by simpa using e2⟩
theorem dep_ord : ∀ (p : Ad) (u : Dt) (L : Lns) (n : Int) (rs : List (List Int)), Con u L → Dep u L n p rs → ord u L = n :: ord u (cutL p L)
  | [], u, L, n, rs, c, d => by
    obtain ⟨⟨w, h1, h2⟩, h3, ⟨r, t, h4, h5⟩, h6⟩ := d
    rw [sub_nil] at h1
    obtain rfl := Option.some.inj h1
    rw [ord_leaf h2, ord_leaf h2, cutL_nil, h4]
    rfl
  | j :: p, u, L, n, [], c, d => by
    have := d.len
    simp at this
  | j :: p, u, L, n, r :: rs, c, d => by
    obtain ⟨w, h1, h2⟩ := d.lf
    obtain ⟨k, hk, _⟩ := sub_len h1
    have hl : u.len ≠ 0 := by have := kid_lt hk; omega
    have ih := dep_ord p k (sh j L) n rs (c.kid hk) (d.kid hk)
    obtain ⟨r0, t, h4, _⟩ := d.hd 0 j rfl
    have h4' : L [] = (r0, ((j : Nat) : Int)) :: t := h4
    rw [ord_fork hl, ord_fork hl, cutL_nil, h4', List.tail_cons]
    have e0 : chs ((r0, ((j : Nat) : Int)) :: t) = j :: chs t := rfl
    rw [e0]
    show (ordC u L j).headD 0 :: mrg (chs t) (dropAt (ordC u L) j) = _
    rw [ordC_at hk, ih]
    refine congrArg (n :: ·) (mrg_congr _ _ _ fun i hi => ?_)
    have hi2 : i < u.len := c.chs_lt hl i (by rw [h4', e0]; exact List.mem_cons_of_mem _ hi)
    obtain ⟨k', hk'⟩ := kid_of hi2
    unfold dropAt
    by_cases e : i = j
    · subst e
      rw [if_pos rfl, ordC_at hk, ordC_at hk, ih, sh_cut]
      rfl
    · rw [if_neg e, ordC_at hk', ordC_at hk', sh_cut_ne e]
theorem dep_con {u : Dt} {L : Lns} {n : Int} {p : Ad} {rs : List (List Int)} (c : Con u L) (d : Dep u L n p rs) : Con u (cutL p L) := by
  refine ⟨fun q w hq hw e he => ?_, fun q w j hq hj => ?_⟩
  · unfold cutL at he
    by_cases h : q <+: p
    · rw [if_pos h] at he
      exact c.it q w hq hw e (List.mem_of_mem_tail he)
    · rw [if_neg h] at he
      exact c.it q w hq hw e he
  · have h0 := c.ct q w j hq hj
    obtain ⟨w', h1, h2⟩ := d.lf
    unfold cutL
    by_cases h : q <+: p
    · rw [if_pos h]
      obtain ⟨s, rfl⟩ := h
      cases s with
      | nil =>
        rw [List.append_nil] at h1
        rw [h1] at hq
        obtain rfl := Option.some.inj hq
        omega
      | cons i s =>
        obtain ⟨r, t, e1, _⟩ := d.hd q.length i (by simp)
        rw [List.take_left] at e1
        rw [e1] at h0 ⊢
        have e2 : chs ((r, ((i : Nat) : Int)) :: t) = i :: chs t := rfl
        rw [e2] at h0
        rw [List.tail_cons]
        by_cases e : i = j
        · subst e
          rw [List.count_cons_self] at h0
          rw [if_pos (by rw [List.prefix_append_right_inj]; exact ⟨s, rfl⟩), List.length_tail]
          omega
        · rw [List.count_cons_of_ne e] at h0
          rw [if_neg (by
            rw [List.prefix_append_right_inj, List.cons_prefix_cons]
            exact fun z => e z.1.symm)]
          exact h0
    · rw [if_neg h, if_neg (fun z => h ((List.prefix_append ..).trans z))]
      exact h0
theorem dep_ex : ∀ (d : Nat) (u : Dt) (L : Lns), u.size ≤ d → Con u L → L [] ≠ [] → ∃ n p rs, Dep u L n p rs
  | 0, u, L, hd, _, h => by cases u <;> simp [Dt.size] at hd
  | d + 1, u, L, hd, c, h => by
    cases e : L [] with
    | nil => exact absurd e h
    | cons z t =>
      obtain ⟨r, n⟩ := z
      by_cases hl : u.len = 0
      · exact ⟨n, [], [r], ⟨u, sub_nil u, hl⟩, fun k j hk => by simp at hk, ⟨r, t, e, rfl⟩, rfl⟩
      · obtain ⟨j, hj, ej⟩ := c.it [] u (sub_nil u) hl (r, n) (by rw [e]; exact List.mem_cons_self ..)
        obtain ⟨k, hk⟩ := kid_of hj
        have ej' : n = (j : Nat) := ej
        have hne : sh j L [] ≠ [] := fun z => by
          have := c.ct [] u j (sub_nil u) hj
          rw [e, ej', show L ([] ++ [j]) = [] from z] at this
          have e2 : chs ((r, ((j : Nat) : Int)) :: t) = j :: chs t := rfl
          rw [e2, List.count_cons_self] at this
          exact absurd this (by simp)
        obtain ⟨n', p, rs, D⟩ := dep_ex d k (sh j L) (by have := kid_sz hk; omega) (c.kid hk) hne
        obtain ⟨⟨w, h1, h2⟩, h3, ⟨r', t', h4, h5⟩, h6⟩ := D
        refine ⟨n', j :: p, r :: rs, ⟨w, by rw [sub_kid hk]; exact h1, h2⟩, fun i j' hj' => ?_, ⟨r', t', h4, by simpa using h5⟩, by simp [h6]⟩
        cases i with
        | zero =>
          have : j = j' := by simpa using hj'
          subst this
          exact ⟨r, t, by rw [← ej']; exact e, rfl⟩
        | succ i =>
          obtain ⟨r2, t2, e1, e2⟩ := h3 i j' (by simpa using hj')
          exact ⟨r2, t2, e1, by simpa using e2⟩
/-! pushes -/
def insE (l : List En) (e : En) : List En := l.takeWhile (fun x => !HT.lexLt e.1 x.1) ++ e :: l.dropWhile (fun x => !HT.lexLt e.1 x.1)
def itm (p : Ad) (n : Int) (k : Nat) : Int := match p[k]? with | some j => (j : Nat) | none => n
def pshL (p : Ad) (rs : List (List Int)) (n : Int) (L : Lns) : Lns := fun q => if q <+: p then insE (L q) (rs.getD q.length [], itm p n q.length) else L q
theorem insE_perm (l : List En) (e : En) : (insE l e).Perm (e :: l) := by
  unfold insE
  refine List.perm_middle.trans ?_
  rw [List.takeWhile_append_dropWhile]
theorem insE_end {l : List En} {e : En} (h : ∀ x ∈ l, HT.lexLt e.1 x.1 = false) : insE l e = l ++ [e] := by
  unfold insE
  have h1 : ∀ m : List En, (∀ x ∈ m, HT.lexLt e.1 x.1 = false) → m.takeWhile (fun x => !HT.lexLt e.1 x.1) = m ∧ m.dropWhile (fun x => !HT.lexLt e.1 x.1) = [] := by
    intro m
    induction m with
    | nil => exact fun _ => ⟨rfl, rfl⟩
    | cons y m ih =>
      intro hm
      have hy : (!HT.lexLt e.1 y.1) = true := by rw [hm y (List.mem_cons_self ..)]; rfl
      obtain ⟨a1, a2⟩ := ih fun z hz => hm z (List.mem_cons_of_mem _ hz)
      rw [List.takeWhile_cons, List.dropWhile_cons, if_pos hy, if_pos hy, a1, a2]
      exact ⟨rfl, rfl⟩
  rw [(h1 l h).1, (h1 l h).2]
theorem pshL_con {u w : Dt} {L : Lns} {p : Ad} {rs : List (List Int)} {n : Int} (c : Con u L) (h : sub u p = some w) (hw : w.len = 0) : Con u (pshL p rs n L) := by
  refine ⟨fun q w' hq hl e he => ?_, fun q w' j hq hj => ?_⟩
  · unfold pshL at he
    by_cases hp : q <+: p
    · rw [if_pos hp] at he
      rcases List.mem_cons.mp ((insE_perm _ _).mem_iff.mp he) with rfl | he
      · obtain ⟨s, rfl⟩ := hp
        cases s with
        | nil =>
          rw [List.append_nil] at h
          rw [h] at hq
          obtain rfl := Option.some.inj hq
          exact absurd hw hl
        | cons i s =>
          have e1 : itm (q ++ i :: s) n q.length = (i : Nat) := by
            unfold itm
            rw [List.getElem?_append_right (Nat.le_refl _), Nat.sub_self]
            rfl
          have h2 := (sub_app u q w' hq (i :: s)).1
          rw [h] at h2
          obtain ⟨k, hk, _⟩ := sub_len h2.symm
          exact ⟨i, kid_lt hk, e1⟩
      · exact c.it q w' hq hl e he
    · rw [if_neg hp] at he
      exact c.it q w' hq hl e he
  · have h0 := c.ct q w' j hq hj
    unfold pshL
    by_cases hp : q <+: p
    · rw [if_pos hp]
      have hc : (chs (insE (L q) (rs.getD q.length [], itm p n q.length))).count j = ((itm p n q.length).toNat :: chs (L q)).count j := (((insE_perm _ _).map _).count_eq j)
      rw [hc]
      obtain ⟨s, rfl⟩ := hp
      cases s with
      | nil =>
        rw [List.append_nil] at h
        rw [h] at hq
        obtain rfl := Option.some.inj hq
        omega
      | cons i s =>
        have e1 : itm (q ++ i :: s) n q.length = (i : Nat) := by
          unfold itm
          rw [List.getElem?_append_right (Nat.le_refl _), Nat.sub_self]
          rfl
        rw [e1, Int.toNat_natCast]
        by_cases e : i = j
        · subst e
          rw [List.count_cons_self, if_pos (by rw [List.prefix_append_right_inj]; exact ⟨s, rfl⟩), (insE_perm _ _).length_eq, List.length_cons, h0]
        · rw [List.count_cons_of_ne e, if_neg (by
            rw [List.prefix_append_right_inj, List.cons_prefix_cons]
            exact fun z => e z.1.symm)]
          exact h0
    · rw [if_neg hp, if_neg (fun z => hp ((List.prefix_append ..).trans z))]
      exact h0
theorem sh_psh (j : Nat) (p : Ad) (r : List Int) (rs : List (List Int)) (n : Int) (L : Lns) : sh j (pshL (j :: p) (r :: rs) n L) = pshL p rs n (sh j L) := by
  funext q
  unfold sh pshL
  by_cases h : q <+: p
  · rw [if_pos h, if_pos (by rw [List.cons_prefix_cons]; exact ⟨rfl, h⟩)]
    rfl
  · rw [if_neg h, if_neg (by rw [List.cons_prefix_cons]; exact fun z => h z.2)]
theorem sh_psh_ne {i j : Nat} (h : i ≠ j) (p : Ad) (rs : List (List Int)) (n : Int) (L : Lns) : sh i (pshL (j :: p) rs n L) = sh i L := by
  funext q
  unfold sh pshL
  rw [if_neg (by rw [List.cons_prefix_cons]; exact fun z => h z.1)]
/-- a push behind all others comes last -/
theorem ord_last : ∀ (p : Ad) (u w : Dt) (L : Lns) (rs : List (List Int)) (n : Int), Con u L → sub u p = some w → w.len = 0 → rs.length = p.length + 1 → (∀ q, q <+: p → ∀ x ∈ L q, HT.lexLt (rs.getD q.length []) x.1 = false) → ord u (pshL p rs n L) = ord u L ++ [n]
  | _, u, w, L, [], n, c, h, hw, hr, hx => by simp at hr
  | [], u, w, L, r :: rs, n, c, h, hw, hr, hx => by
    rw [sub_nil] at h
    obtain rfl := Option.some.inj h
    rw [ord_leaf hw, ord_leaf hw]
    unfold pshL
    rw [if_pos (List.nil_prefix ..), insE_end (hx [] (List.nil_prefix ..))]
    show its (L [] ++ [(r, n)]) = _
    unfold its
    rw [List.map_append]
    rfl
  | j :: p, u, w, L, r :: rs, n, c, h, hw, hr, hx => by
    obtain ⟨k, hk, hk2⟩ := sub_len h
    have hj := kid_lt hk
    have hl : u.len ≠ 0 := by omega
    have ih := ord_last p k w (sh j L) rs n (c.kid hk) hk2 hw (by simpa using hr) fun q hq x hx2 => by
      have := hx (j :: q) (by rw [List.cons_prefix_cons]; exact ⟨rfl, hq⟩) x hx2
      simpa using this
    rw [ord_fork hl, ord_fork hl]
    have e1 : pshL (j :: p) (r :: rs) n L [] = L [] ++ [(r, ((j : Nat) : Int))] := by
      unfold pshL
      rw [if_pos (List.nil_prefix ..), insE_end (hx [] (List.nil_prefix ..))]
      rfl
    have e2 : chs (L [] ++ [(r, ((j : Nat) : Int))]) = chs (L []) ++ [j] := by
      unfold chs
      rw [List.map_append]
      rfl
    rw [e1, e2, ← mrg_snoc n (chs (L [])) (ordC u L) j (c.enough hl) (c.exact hj)]
    refine mrg_congr _ _ _ fun i hi => ?_
    have hi2 : i < u.len := by
      rcases List.mem_append.mp hi with hi | hi
      · exact c.chs_lt hl i hi
      · rw [List.mem_singleton.mp hi]
        exact hj
    obtain ⟨k', hk'⟩ := kid_of hi2
    by_cases e : i = j
    · subst e
      rw [if_pos rfl, ordC_at hk, ordC_at hk, sh_psh, ih]
    · rw [if_neg e, ordC_at hk', ordC_at hk', sh_psh_ne e]
end K26
set_option Elab.async false
set_option linter.all false
set_option maxRecDepth 100000
set_option maxHeartbeats 4000000
namespace K26
open PySem PySem.Spec PyProof.Rows L2 Dt
/-! ### the heap but for some mutable objects -/
def offS (S : List Addr) (H : Hp) : Hp := fun b => if b ∈ S then none else H b
theorem offS_in {S : List Addr} {H : Hp} {b : Addr} (h : b ∈ S) : offS S H b = none := if_pos h
theorem offS_ne {S : List Addr} {H : Hp} {b : Addr} (h : b ∉ S) : offS S H b = H b := if_neg h
theorem offS_some {S : List Addr} {H : Hp} {b : Addr} {u : HO} (h : offS S H b = some u) : b ∉ S ∧ H b = some u := by
  by_cases z : b ∈ S
  · rw [offS_in z] at h
    exact nomatch h
  · rw [offS_ne z] at h
    exact ⟨z, h⟩
theorem offS_same {S : List Addr} {H : Hp} : Same (offS S H) H := fun b u h => (offS_some h).2
/-- only what lies at S may have changed -/
structure GoS (S : List Addr) (H H' : Hp) : Prop where
  s : Same (offS S H) (offS S H')
  k : ∀ y, H y ≠ none → H' y ≠ none
theorem GoS.refl {S : List Addr} {H : Hp} : GoS S H H := ⟨fun _ _ h => h, fun _ h => h⟩
theorem GoS.trans {S : List Addr} {H H1 H2 : Hp} (a : GoS S H H1) (b : GoS S H1 H2) : GoS S H H2 := ⟨fun y u h => b.s y u (a.s y u h), fun y h => b.k y (a.k y h)⟩
theorem same_al {H H' : Hp} (e : Same H H') {y : Addr} (h : H y ≠ none) : H' y ≠ none := by
  cases z : H y with
  | none => exact absurd z h
  | some u =>
    rw [e y u z]
    exact fun q => nomatch q
theorem GoS.of {S : List Addr} {H H' : Hp} (e : Same H H') : GoS S H H' := ⟨fun y u h => by
  obtain ⟨h1, h2⟩ := offS_some h
  rw [offS_ne h1]
  exact e y u h2, fun y h => same_al e h⟩
theorem GoS.at {S : List Addr} {H H' : Hp} {y : Addr} {u : HO} (g : GoS S H H') (h : H y = some u) (n : y ∉ S) : H' y = some u := by
  have := g.s y u (by rw [offS_ne n]; exact h)
  rw [offS_ne n] at this
  exact this
theorem GoS.wide {S S' : List Addr} {H H' : Hp} (g : GoS S H H') (h : ∀ y ∈ S, y ∈ S') : GoS S' H H' := ⟨fun y u e => by
  obtain ⟨h1, h2⟩ := offS_some e
  rw [offS_ne h1]
  exact g.at h2 fun z => h1 (h y z), g.k⟩
theorem GoS.upd {S : List Addr} {H H' : Hp} {p : Addr} {v : HO} (g : GoS S H H') (h : p ∈ S) : GoS S H (L2.upd H' p v) := ⟨fun y u e => by
  obtain ⟨h1, h2⟩ := offS_some (g.s y u e)
  rw [offS_ne h1, upd_ne (fun z => h1 (by rw [z]; exact h))]
  exact h2, fun y hy => by
  by_cases z : y = p
  · rw [z, upd_same]
    exact fun q => nomatch q
  · rw [upd_ne z]
    exact g.k y hy⟩
theorem GoS.new {S : List Addr} {H H' : Hp} {p : Addr} {v : HO} (g : GoS S H H') (h : H' p = none) : GoS S H (L2.upd H' p v) := g.trans (GoS.of (same_new h))
theorem GoS.free {S : List Addr} {H H' : Hp} {p : Addr} (g : GoS S H H') (h : H' p = none) : H p = none := by
  cases e : H p with
  | none => rfl
  | some u => exact absurd h (g.k p (by rw [e]; exact fun q => nomatch q))
/-- mutable objects that are made newly -/
theorem offS_grow {S N : List Addr} {H0 H : Hp} (e : Same H0 H) (h : ∀ y ∈ N, H0 y = none) : Same (offS S H0) (offS (N ++ S) H) := fun y u g => by
  obtain ⟨h1, h2⟩ := offS_some g
  rw [offS_ne]
  · exact e y u h2
  · intro z
    rcases List.mem_append.mp z with z | z
    · rw [h y z] at h2
      exact nomatch h2
    · exact h1 z
/-! ### entries as data -/
def enD (e : En) : PyData := .tuple [intsD e.1, .int e.2]
theorem rank_eq {d : PyData} (h : rankOf d = true) : ∃ ns, d = intsD ns := by
  cases d with
  | tuple ds =>
    have h' : (decide (ds.length ≤ 8) && ds.all partB) = true := h
    rw [Bool.and_eq_true] at h'
    have g : ∀ l : List PyData, l.all partB = true → ∃ ns : List Int, l = ns.map PyData.int := by
      intro l
      induction l with
      | nil => exact fun _ => ⟨[], rfl⟩
      | cons d l ih =>
        intro hl
        rw [List.all_cons, Bool.and_eq_true] at hl
        obtain ⟨ns, rfl⟩ := ih hl.2
        cases d with
        | int i => exact ⟨i :: ns, rfl⟩
        | none => exact nomatch hl.1
        | bool _ => exact nomatch hl.1
        | str _ => exact nomatch hl.1
        | list _ => exact nomatch hl.1
        | tuple _ => exact nomatch hl.1
        | dict _ => exact nomatch hl.1
    obtain ⟨ns, rfl⟩ := g ds h'.2
    exact ⟨ns, rfl⟩
  | _ => exact nomatch h
theorem rkInts_ints (ns : List Int) : rkInts (intsD ns) = ns := by
  show (ns.map PyData.int).filterMap numOf = ns
  induction ns with
  | nil => rfl
  | cons i ns ih =>
    show i :: (ns.map PyData.int).filterMap numOf = i :: ns
    rw [ih]
theorem rksOf_en (l : List En) : rksOf (l.map enD) = l.map (·.1) := by
  unfold rksOf
  rw [List.map_map]
  refine List.map_congr_left fun e _ => ?_
  show rkInts (intsD e.1) = e.1
  exact rkInts_ints e.1
def RkOK (l : List En) : Prop := ∀ e ∈ l, rankOf (intsD e.1) = true
def Asc1 (l : List En) : Prop := (l.map (·.1)).Pairwise fun p q => HT.lexLt q p = false
theorem line_en {l : List En} (h : RkOK l) (g : Asc1 l) : lineOf (.tuple (l.map enD)) = true := by
  refine line_of_facts _ [] (fun d hd => ?_) ?_ fun r _ => lex_nil r
  · obtain ⟨e, he, rfl⟩ := List.mem_map.mp hd
    exact ⟨_, _, rfl, h e he⟩
  · rw [rksOf_en]
    exact g
theorem take_insE {l : List En} {e : En} (g : Asc1 l) {p : Nat} (h : PlaceIs (l.map (·.1)) e.1 p) : insE l e = l.take p ++ e :: l.drop p := by
  induction l generalizing p with
  | nil =>
    have := h.le
    obtain rfl : p = 0 := by simpa using this
    rfl
  | cons y l ih =>
    unfold Asc1 at g
    rw [List.map_cons] at g h
    obtain ⟨g1, g2⟩ := List.pairwise_cons.mp g
    unfold insE
    cases p with
    | zero =>
      have hy := h.hi 0 y.1 (Nat.le_refl _) rfl
      have hn : (!HT.lexLt e.1 y.1) = false := by rw [hy]; rfl
      rw [List.takeWhile_cons, List.dropWhile_cons, if_neg (by rw [hn]; decide), if_neg (by rw [hn]; decide)]
      rfl
    | succ p =>
      have hy := h.lo 0 y.1 (Nat.zero_lt_succ _) rfl
      have hn : (!HT.lexLt e.1 y.1) = true := by rw [hy]; rfl
      have h2 : PlaceIs (l.map (·.1)) e.1 p := ⟨by have := h.le; simpa using this, fun i s hi hs => h.lo (i + 1) s (by omega) (by simpa using hs), fun i s hi hs => h.hi (i + 1) s (by omega) (by simpa using hs)⟩
      have := ih g2 h2
      unfold insE at this
      rw [List.takeWhile_cons, List.dropWhile_cons, if_pos hn, if_pos hn, List.cons_append, this]
      rfl
theorem insE_rk {l : List En} {e : En} (h : RkOK l) (he : rankOf (intsD e.1) = true) : RkOK (insE l e) := fun y hy => by
  rcases List.mem_cons.mp ((insE_perm l e).mem_iff.mp hy) with rfl | hy
  · exact he
  · exact h y hy
theorem insE_asc {l : List En} {e : En} (g : Asc1 l) : Asc1 (insE l e) := by
  induction l with
  | nil => exact List.pairwise_singleton ..
  | cons y l ih =>
    unfold Asc1 at g ih
    rw [List.map_cons] at g
    obtain ⟨g1, g2⟩ := List.pairwise_cons.mp g
    have e1 : insE (y :: l) e = if HT.lexLt e.1 y.1 = true then e :: y :: l else y :: insE l e := by
      unfold insE
      rw [List.takeWhile_cons, List.dropWhile_cons]
      cases hc : HT.lexLt e.1 y.1 with
      | true => rfl
      | false => rfl
    rw [e1]
    unfold Asc1
    cases hc : HT.lexLt e.1 y.1 with
    | true =>
      rw [if_pos rfl, List.map_cons, List.map_cons]
      refine List.pairwise_cons.mpr ⟨fun s hs => ?_, List.pairwise_cons.mpr ⟨g1, g2⟩⟩
      rcases List.mem_cons.mp hs with rfl | hs
      · exact NtL.lex_asym _ _ hc
      · cases hq : HT.lexLt s e.1 with
        | false => rfl
        | true =>
          have h3 := g1 s hs
          cases hz : HT.lexLt s y.1 with
          | true => rw [hz] at h3; exact nomatch h3
          | false =>
            have z1 : HT.lexLt e.1 y.1 = false := by
              have z2 := NtL.lex_asym _ _ hq
              exact NtL.lex_tr y.1 s e.1 h3 z2
            rw [hc] at z1
            exact nomatch z1
    | false =>
      rw [if_neg (by decide), List.map_cons]
      refine List.pairwise_cons.mpr ⟨fun s hs => ?_, ih g2⟩
      obtain ⟨z, hz, rfl⟩ := List.mem_map.mp hs
      rcases List.mem_cons.mp ((insE_perm l e).mem_iff.mp hz) with rfl | hz
      · exact hc
      · exact g1 _ (List.mem_map_of_mem hz)
theorem lex_refl0 : ∀ l : List Int, HT.lexLt l l = false
  | [] => rfl
  | i :: l => by
    rw [HT.lexLt_cons, if_pos rfl]
    exact lex_refl0 l
theorem dps_cut {K : PySem.W.Frag} {H : Hp} : ∀ {xs : List V} {ds : List PyData} (n : Nat), DpAll K H xs ds → DpAll K H (xs.take n) (ds.take n) ∧ DpAll K H (xs.drop n) (ds.drop n)
  | _, _, 0, h => ⟨.nil, h⟩
  | _, _, _ + 1, .nil => ⟨.nil, .nil⟩
  | _, _, n + 1, .cons h t => ⟨.cons h (dps_cut n t).1, (dps_cut n t).2⟩
theorem dps_app {K : PySem.W.Frag} {H : Hp} : ∀ {xs ys : List V} {ds es : List PyData}, DpAll K H xs ds → DpAll K H ys es → DpAll K H (xs ++ ys) (ds ++ es)
  | _, _, _, _, .nil, b => b
  | _, _, _, _, .cons h t, b => .cons h (dps_app t b)
/-- an entry more -/
theorem dps_ins {K : PySem.W.Frag} {H : Hp} {xs : List V} {l : List En} {v : V} {e : En} {p : Nat} (h : DpAll K H xs (l.map enD)) (hv : Dp K H v (enD e)) (he : insE l e = l.take p ++ e :: l.drop p) : DpAll K H (xs.take p ++ [v] ++ xs.drop p) ((insE l e).map enD) := by
  rw [he, List.map_append, List.map_cons, List.map_take, List.map_drop, List.append_assoc]
  exact dps_app (dps_cut p h).1 (.cons hv (dps_cut p h).2)
/-! ### a standing -/
structure StE (K : PySem.W.Frag) (C CS : Addr) (S : List Addr) (H : Hp) (a ta la sd : Addr) (Ls : List Addr) (T : Dt) (L : Lns) (kv : List (Key × V)) : Prop where
  sub : ∀ y ∈ sd :: Ls, y ∈ S
  al : ∀ y ∈ S, H y ≠ none
  nd : (sd :: Ls).Nodup
  ob : ∃ dx, offS S H a = some (.ins CS dx (stS ta la sd))
  tr : Tree K (offS S H) C ta T
  ln : offS S H la = some (.lst (Ls.map V.ref))
  len : Ls.length = T.nodes
  li : ∀ q ∈ ad T, ∃ l xs, Ls[T.idx q]? = some l ∧ H l = some (.lst xs) ∧ DpAll K (offS S H) xs ((L q).map enD)
  se : H sd = some (.dK kv)
  rk : ∀ q, RkOK (L q)
  pw : ∀ q, Asc1 (L q)
section
variable {K : PySem.W.Frag} {C CS : Addr} {S : List Addr} {H H' : Hp} {a ta la sd : Addr} {Ls : List Addr} {T : Dt} {L : Lns} {kv : List (Key × V)}
theorem StE.obj (s : StE K C CS S H a ta la sd Ls T L kv) : ∃ dx, H a = some (.ins CS dx (stS ta la sd)) := by
  obtain ⟨dx, h⟩ := s.ob
  exact ⟨dx, (offS_some h).2⟩
theorem StE.tree (s : StE K C CS S H a ta la sd Ls T L kv) : Tree K H C ta T := s.tr.same offS_same
theorem StE.lst (s : StE K C CS S H a ta la sd Ls T L kv) : H la = some (.lst (Ls.map V.ref)) := (offS_some s.ln).2
theorem StE.keep {M : List Addr} (s : StE K C CS S H a ta la sd Ls T L kv) (g : GoS M H H') (h : ∀ y ∈ M, y ∈ S) (n : ∀ y ∈ M, y ∉ sd :: Ls) : StE K C CS S H' a ta la sd Ls T L kv := by
  have gs : Same (offS S H) (offS S H') := (g.wide h).s
  obtain ⟨dx, ob⟩ := s.ob
  refine ⟨s.sub, fun y hy => g.k y (s.al y hy), s.nd, ⟨dx, gs _ _ ob⟩, s.tr.same gs, gs _ _ s.ln, s.len, fun q hq => ?_, g.at s.se fun z => n sd z (List.mem_cons_self ..), s.rk, s.pw⟩
  obtain ⟨l, xs, h1, h2, h3⟩ := s.li q hq
  exact ⟨l, xs, h1, g.at h2 fun z => n l z (List.mem_cons_of_mem _ (List.mem_of_getElem? h1)), dps_same gs h3⟩
theorem StE.same (s : StE K C CS S H a ta la sd Ls T L kv) (e : Same H H') : StE K C CS S H' a ta la sd Ls T L kv :=
  s.keep (M := []) (GoS.of e) (fun y h => by simp at h) fun y h => by simp at h
theorem StE.grow {N : List Addr} {H0 : Hp} (s : StE K C CS S H0 a ta la sd Ls T L kv) (e : Same H0 H) (h : ∀ y ∈ N, H0 y = none) (h2 : ∀ y ∈ N, H y ≠ none) : StE K C CS (N ++ S) H a ta la sd Ls T L kv := by
  have gs := offS_grow (S := S) e h
  obtain ⟨dx, ob⟩ := s.ob
  refine ⟨fun y hy => List.mem_append_right _ (s.sub y hy), fun y hy => (List.mem_append.mp hy).elim (h2 y) fun z => same_al e (s.al y z), s.nd, ⟨dx, gs _ _ ob⟩, s.tr.same gs, gs _ _ s.ln, s.len, fun q hq => ?_, e _ _ s.se, s.rk, s.pw⟩
  obtain ⟨l, xs, h1, h2, h3⟩ := s.li q hq
  exact ⟨l, xs, h1, e _ _ h2, dps_same gs h3⟩
end
end K26
set_option Elab.async false
set_option linter.all false
set_option maxRecDepth 100000
set_option maxHeartbeats 4000000
namespace K26
open PySem PySem.Spec PyProof.Rows L2 Dt
theorem cut_drop (xs : List V) (k : Nat) : cutV xs (some (k : Int)) none = xs.drop k := by
  unfold cutV
  rw [HT.sIx_none, HT.sIx_nat]
  by_cases h : k ≤ xs.length
  · rw [Nat.min_eq_left h]
    exact List.take_of_length_le (by rw [List.length_drop]; omega)
  · rw [Nat.min_eq_right (by omega), List.drop_of_length_le (Nat.le_refl _), List.drop_of_length_le (by omega)]
    simp
theorem rSlA_all {K : PySem.W.Frag} {H : Hp} {a : Addr} {xs : List V} {lo hi : Option Int} {Q : VK} (ha : SqT K H a xs) (h : ∀ tp H2, Same H H2 → SqT K H2 tp (cutV xs lo hi) → Q (.ref tp) H2) : rSlA K (.ref a) lo hi H Q := by
  refine ⟨a, xs, rfl, ha, fun e => ?_, fun e p hp => h p _ (same_new hp) (SqT.of upd_same)⟩
  refine h a H (fun _ _ z => z) ?_
  have : cutV xs lo hi = xs := by
    unfold cutV
    rw [e.1, e.2, List.drop_zero, Nat.sub_zero, List.take_length]
  rw [this]
  exact ha
/-! ### Standing.push -/
def sidesV (p : Ad) (n : Int) (m : Nat) : List V := (List.range m).map fun k => V.int (itm p n k)
/-- the items that a push puts along the way -/
def tItemsS (K : PySem.W.Frag) (C CS : Addr) : TS := fun D σ H => ∃ a dx ta la sd n pt T p o2 o3 o5 o6 o7 o8 o9, σ = [some (.ref a), some (.int n), o2, o3, some (.ref pt), o5, o6, o7, o8, o9] ∧ H a = some (.ins CS dx (stS ta la sd)) ∧ Tree K H C ta T ∧ p ∈ lv T ∧ T.ht < 20 ∧ SqT K H pt (pth T p (p.length + 1)) ∧
  ∀ H' l, Same H H' → H l = none → H' l = some (.lst (sidesV p n (p.length + 1))) → D.nx [some (.ref a), some (.int n), o2, o3, some (.ref pt), o5, some (.ref l), o7, o8, o9] H'
theorem pe_fldK {X : Cx} {K : PySem.W.Frag} {e : Expr} {f : Str} {pos : Pos} {ta : TE} (hK : X.K = K) (h : PE X e ta) (g : attributeBase e f X.env (eval e X.env) = eval e X.env) : PE X (e.Attribute f pos) (tFld K ta f) := by
  subst hK
  exact pe_fld h g
theorem ix_listK {X : Cx} {K : PySem.W.Frag} (hK : X.K = K) : IxR X (rIxL K) := by
  subst hK
  exact ix_list
theorem pth_at {T : Dt} {p : Ad} {n k : Nat} (h : k < n) : (pth T p n)[k]? = some (V.int (T.idx (p.take k) : Nat)) := by
  unfold pth
  rw [List.getElem?_map, List.getElem?_range h]
  rfl
theorem pth_len (T : Dt) (p : Ad) (n : Nat) : (pth T p n).length = n := by
  unfold pth
  rw [List.length_map, List.length_range]
theorem sideI_take {p : Ad} {k : Nat} (h : k < p.length) (n : Int) : sideI (p.take (k + 1)) = itm p n k := by
  unfold sideI itm
  rw [List.take_succ_eq_append_getElem h, List.getLast?_concat, List.getElem?_eq_getElem h]
theorem itm_end (p : Ad) (n : Int) : itm p n p.length = n := by
  unfold itm
  rw [List.getElem?_eq_none (Nat.le_refl _)]
theorem lv_ad {T : Dt} {p : Ad} (h : p ∈ lv T) : p ∈ ad T := (List.mem_filter.mp h).1
theorem lv_lf {T : Dt} {p : Ad} (h : p ∈ lv T) : ∃ w, sub T p = some w ∧ w.len = 0 := by
  obtain ⟨h1, h2⟩ := List.mem_filter.mp h
  obtain ⟨w, hw⟩ := ad_sub h1
  refine ⟨w, hw, ?_⟩
  rw [isLf_o hw] at h2
  simpa using h2
section
variable {P : Program} {w : World} {K : PySem.W.Frag} {mg : Str → Option Value} {base : Heap} {C CS U fG : Addr}
end
end K26
set_option Elab.async false
set_option linter.all false
set_option maxRecDepth 100000
set_option maxHeartbeats 4000000
namespace K26
open PySem PySem.Spec PyProof.Rows L2 Dt
theorem sidesV_at {p : Ad} {n : Int} {m k : Nat} (h : k < m) : (sidesV p n m)[k]? = some (V.int (itm p n k)) := by
  unfold sidesV
  rw [List.getElem?_map, List.getElem?_range h]
  rfl
theorem sidesV_len (p : Ad) (n : Int) (m : Nat) : (sidesV p n m).length = m := by
  unfold sidesV
  rw [List.length_map, List.length_range]
theorem sidesV_succ (p : Ad) (n : Int) (m : Nat) : sidesV p n (m + 1) = sidesV p n m ++ [.int (itm p n m)] := by
  unfold sidesV
  rw [List.range_succ, List.map_append]
  rfl
/-- the lines when the first k entries are put -/
def pshK (p : Ad) (rs : List (List Int)) (n : Int) (L : Lns) (k : Nat) : Lns := fun q => if q <+: p ∧ q.length < k then insE (L q) (rs.getD q.length [], itm p n q.length) else L q
theorem pshK_zero (p : Ad) (rs : List (List Int)) (n : Int) (L : Lns) : pshK p rs n L 0 = L := by
  funext q
  unfold pshK
  rw [if_neg (fun z => absurd z.2 (Nat.not_lt_zero _))]
theorem pshK_full (p : Ad) (rs : List (List Int)) (n : Int) (L : Lns) : pshK p rs n L (p.length + 1) = pshL p rs n L := by
  funext q
  unfold pshK pshL
  by_cases h : q <+: p
  · rw [if_pos ⟨h, by have := h.length_le; omega⟩, if_pos h]
  · rw [if_neg (fun z => h z.1), if_neg h]
theorem pshK_succ (p : Ad) (rs : List (List Int)) (n : Int) (L : Lns) (k : Nat) (hk : k ≤ p.length) : pshK p rs n L (k + 1) = fun q => if q = p.take k then insE (L (p.take k)) (rs.getD k [], itm p n k) else pshK p rs n L k q := by
  funext q
  have hl : (p.take k).length = k := by rw [List.length_take]; omega
  by_cases e : q = p.take k
  · rw [if_pos e, e]
    unfold pshK
    rw [if_pos ⟨List.take_prefix .., by omega⟩, hl]
  · rw [if_neg e]
    unfold pshK
    by_cases h : q <+: p ∧ q.length < k
    · rw [if_pos h, if_pos ⟨h.1, by omega⟩]
    · rw [if_neg h, if_neg (fun z => ?_)]
      have : q.length = k := by
        have h1 : ¬ q.length < k := fun y => h ⟨z.1, y⟩
        omega
      refine e ?_
      rw [← this]
      exact (List.prefix_iff_eq_take.mp z.1)
theorem pshK_at (p : Ad) (rs : List (List Int)) (n : Int) (L : Lns) (k : Nat) (hk : k ≤ p.length) : pshK p rs n L k (p.take k) = L (p.take k) := by
  have hl : (p.take k).length = k := by rw [List.length_take]; omega
  unfold pshK
  rw [if_neg (fun z => by omega)]
/-- one line of a standing is another one -/
theorem StE.setL {K : PySem.W.Frag} {C CS : Addr} {S : List Addr} {H : Hp} {a ta la sd : Addr} {Ls : List Addr} {T : Dt} {L : Lns} {kv : List (Key × V)} (s : StE K C CS S H a ta la sd Ls T L kv) {q : Ad} {l : Addr} {xs : List V} {es : List En} (hq : q ∈ ad T) (hl : Ls[T.idx q]? = some l) (hx : DpAll K (offS S H) xs (es.map enD)) (h1 : RkOK es) (h2 : Asc1 es) :
    StE K C CS S (upd H l (.lst xs)) a ta la sd Ls T (fun r => if r = q then es else L r) kv := by
  have hm : l ∈ S := s.sub l (List.mem_cons_of_mem _ (List.mem_of_getElem? hl))
  have gG : GoS S H (upd H l (.lst xs)) := (GoS.refl (S := S)).upd hm
  have gs := gG.s
  obtain ⟨dx, ob⟩ := s.ob
  have hn := List.nodup_cons.mp s.nd
  have nsd : sd ≠ l := fun e => hn.1 (by rw [e]; exact List.mem_of_getElem? hl)
  refine ⟨s.sub, fun y hy => gG.k y (s.al y hy), s.nd, ⟨dx, gs _ _ ob⟩, s.tr.same gs, gs _ _ s.ln, s.len, fun r hr => ?_, by rw [upd_ne nsd]; exact s.se, fun r => ?_, fun r => ?_⟩
  · by_cases e : r = q
    · rw [e, if_pos rfl]
      exact ⟨l, xs, hl, upd_same, dps_same gs hx⟩
    · rw [if_neg e]
      obtain ⟨l', xs', g1, g2, g3⟩ := s.li r hr
      refine ⟨l', xs', g1, ?_, dps_same gs g3⟩
      rw [upd_ne]
      · exact g2
      · intro z
        rw [z] at g1
        obtain ⟨b1, c1⟩ := List.getElem?_eq_some_iff.mp g1
        obtain ⟨b2, c2⟩ := List.getElem?_eq_some_iff.mp hl
        have := (List.getElem_inj hn.2).mp (c1.trans c2.symm)
        exact e (idx_inj hr hq this)
  · split
    · exact h1
    · exact s.rk r
  · split
    · exact h2
    · exact s.pw r
/-- the packets' queues are others -/
theorem StE.setS {K : PySem.W.Frag} {C CS : Addr} {S : List Addr} {H : Hp} {a ta la sd : Addr} {Ls : List Addr} {T : Dt} {L : Lns} {kv : List (Key × V)} (s : StE K C CS S H a ta la sd Ls T L kv) (kv' : List (Key × V)) : StE K C CS S (upd H sd (.dK kv')) a ta la sd Ls T L kv' := by
  have hm : sd ∈ S := s.sub sd (List.mem_cons_self ..)
  have gG : GoS S H (upd H sd (.dK kv')) := (GoS.refl (S := S)).upd hm
  have gs := gG.s
  obtain ⟨dx, ob⟩ := s.ob
  have hn := List.nodup_cons.mp s.nd
  refine ⟨s.sub, fun y hy => gG.k y (s.al y hy), s.nd, ⟨dx, gs _ _ ob⟩, s.tr.same gs, gs _ _ s.ln, s.len, fun r hr => ?_, upd_same, s.rk, s.pw⟩
  obtain ⟨l', xs', g1, g2, g3⟩ := s.li r hr
  refine ⟨l', xs', g1, ?_, dps_same gs g3⟩
  rw [upd_ne]
  · exact g2
  · intro z
    exact hn.1 (by rw [← z]; exact List.mem_of_getElem? g1)
theorem ht_sub : ∀ (p : Ad) (T u : Dt), sub T p = some u → p.length ≤ T.ht
  | [], _, _, _ => Nat.zero_le _
  | j :: p, T, u, h => by
    obtain ⟨k, hk, h2⟩ := sub_len h
    have h3 := ht_sub p k u h2
    have h4 := ht_kid T j k hk
    show p.length + 1 ≤ T.ht
    omega
theorem ht_path {T : Dt} {p : Ad} (h : p ∈ lv T) : p.length ≤ T.ht := by
  obtain ⟨w, h1, _⟩ := lv_lf h
  exact ht_sub p T w h1
def spPush (K : PySem.W.Frag) (C CS U : Addr) : Sp := fun vs H Q E => ∃ (a ta la sd : Addr) (S Ls : List Addr) (T : Dt) (L : Lns) (kv : List (Key × V)) (x y z : V) (o oq : Option Int) (d : PyData), vs = [.ref a, x, y, z] ∧ StE K C CS S H a ta la sd Ls T L kv ∧ T.ht < 20 ∧ NumV K H x o ∧ NumV K H y oq ∧ Dp K (offS S H) z d ∧ (∀ ds, d = .tuple ds → ds.length ≤ 1000000) ∧ (∀ q, (L q).length ≤ 100000) ∧ kv.length ≤ 100000 ∧
  (absentB kv o = false → ∀ H', Same H H' → Out U "number" H' E) ∧
  (absentB kv o = true → belowB (T.lf : Nat) oq = false → ∀ H', Same H H' → Out U "queue" H' E) ∧
  (absentB kv o = true → ∀ (i : Nat) p, oq = some (i : Nat) → (lv T)[i]? = some p → fitOf (p.length + 1) d = false → ∀ H', Same H H' → Out U "ranks" H' E) ∧
  (absentB kv o = true → ∀ (n : Int) (i : Nat) p rs, o = some n → oq = some (i : Nat) → (lv T)[i]? = some p → d = .tuple (rs.map intsD) → rs.length = p.length + 1 → (∀ r ∈ rs, rankOf (intsD r) = true) → ∀ H', GoS (sd :: Ls) H H' → StE K C CS S H' a ta la sd Ls T (pshL p rs n L) (putK kv (Sum.inl n : Key) (.int (i : Nat))) → Q .non H')
/-- ranks that fit -/
theorem fit_ranks {m : Nat} {d : PyData} (h : fitOf m d = true) : ∃ rs : List (List Int), d = .tuple (rs.map intsD) ∧ rs.length = m ∧ ∀ r ∈ rs, rankOf (intsD r) = true := by
  cases d with
  | tuple ds =>
    have h' : (decide (ds.length = m) && ds.all rankOf) = true := h
    rw [Bool.and_eq_true] at h'
    have g : ∀ l : List PyData, l.all rankOf = true → ∃ rs : List (List Int), l = rs.map intsD ∧ ∀ r ∈ rs, rankOf (intsD r) = true := by
      intro l
      induction l with
      | nil => exact fun _ => ⟨[], rfl, fun r hr => nomatch hr⟩
      | cons e l ih =>
        intro hl
        rw [List.all_cons, Bool.and_eq_true] at hl
        obtain ⟨rs, rfl, hr⟩ := ih hl.2
        obtain ⟨ns, rfl⟩ := rank_eq hl.1
        refine ⟨ns :: rs, rfl, fun r hr2 => ?_⟩
        rcases List.mem_cons.mp hr2 with rfl | hr2
        · exact hl.1
        · exact hr r hr2
    obtain ⟨rs, rfl, hr⟩ := g ds h'.2
    exact ⟨rs, rfl, by have := of_decide_eq_true h'.1; simpa using this, hr⟩
  | _ => exact nomatch h
/-- a rank in memory -/
theorem dp_ranks {K : PySem.W.Frag} {H : Hp} {vs : List V} {rs : List (List Int)} (h : DpAll K H vs (rs.map intsD)) {k : Nat} {v : V} (hv : vs[k]? = some v) : ∃ r, rs[k]? = some r ∧ Dp K H v (intsD r) := by
  obtain ⟨d, h1, h2⟩ := dps_at h hv
  rw [List.getElem?_map] at h1
  obtain ⟨r, h3, rfl⟩ := Option.map_eq_some_iff.mp h1
  exact ⟨r, h3, h2⟩
section
variable {P : Program} {w : World} {K : PySem.W.Frag} {mg : Str → Option Value} {base : Heap} {C CS U fG : Addr}
theorem ok_push {f : Addr} {fd : FuncData} (F : Fun K "push" "Standing.push" s_Standing_push f fd) (T0 : Txt K mg) (hz : mg "zip" = none) (SC : StCl K CS) (TC : TCl K mg C fG)
    (GA : CalX P w K mg base (L2.CX P w) 4 "need_absent" ["standing", "number"] (spAbsent K CS U)) (GQ : CalX P w K mg base (L2.CX P w) 4 "need_queue" ["tree", "queue", "word"] (spNeedQueue K C U))
    (GN : CalX P w K mg base (L2.CX P w) 3 "need" ["fits", "word"] (spNeed U)) (GF : CalX P w K mg base CX0 3 "fit_path" ["tree", "queue", "thing"] (spFit K C)) (GB : CalX P w K mg base CX0 1 "place_behind" ["line", "rank"] (spBehindL K)) :
    FnOk P w K mg base (L2.CX P w) 5 f fd ["self", "number", "queue", "ranks"] (spPush K C CS U) := by
  refine F.okX sc_Standing_push (fun vs H Q E h => ?_) (fun cdv A outer s H vs Q E hr h => ?_)
  · obtain ⟨a, ta, la, sd, S, Ls, T, L, kv, x, y, z, o, oq, d, rfl, _⟩ := h
    rfl
  obtain ⟨a, ta, la, sd, S, Ls, T, L, kv, x, y, z, o, oq, d, rfl, st, hht, hx, hy, hd, hdl, hL, hkv, q1, q2, q3, q4⟩ := h
  have hu := hu_of hr
  refine ⟨_, (pss_cons (ps_expr (pe_cx GA hr (by decide) rfl (passes_call (takes_of rfl rfl rfl rfl) (fun _ _ _ _ h => h)) (pa_cons (pv 0) (pa_cons (pv 1) pa_nil)))) 
    (pss_cons (ps_expr (pe_cx GQ hr (by decide) rfl (passes_call (takes_of rfl rfl rfl rfl) (fun _ _ _ _ h => h)) (pa_cons (pe_fld (pv 0) rfl) (pa_cons (pv 2) (pa_cons pe_str pa_nil))))) 
    (pss_cons (ps_expr (pe_cx GN hr (by decide) rfl (passes_call (takes_of rfl rfl rfl rfl) (fun _ _ _ _ h => h)) (pa_cons (pe_c0 GF hr (by decide) rfl (pa_cons (pe_fld (pv 0) rfl) (pa_cons (pv 2) (pa_cons (pv 3) pa_nil)))) (pa_cons pe_str pa_nil)))) 
    (pss_cons (ps_set (i := 4) sc_Standing_push.nd rfl (.inl rfl) (pe_ix ix_list (pe_fld (pe_fld (pv 0) rfl) rfl) (pv 2) (fun _ _ => rfl))) 
    (pss_cons (ps_conv (t' := tItemsS K C CS) (ps_set (i := 6) sc_Standing_push.nd rfl (.inl rfl) (pe_op op_cat (pe_lc (own := [("node", 5)]) (g := gName 5) (tt := tYes) (by rfl) sc_Standing_push.nd (pi_tup (pe_slice sl_tupA (pv 4) (po_some pe_int) po_none)) (blkOk_by (own := [("node", 5)]) (N := N_Standing_push) (sc := defScope s_Standing_push) (by decide +kernel)) (fun _ _ _ _ _ => pg_name (i := 5) sc_Standing_push.nd rfl (Or.inl rfl)) (fun _ _ _ _ _ => pts_nil) (fun _ _ _ _ _ => by exact (pe_ix (ix_listK (K := K) (by exact rfl)) (pe_fldK (K := K) (by exact rfl) (pe_fldK (K := K) (by exact rfl) (pv 0) rfl) rfl) (pv 5) (fun _ _ => rfl)))) (pe_lst (pa_cons (pv 1) pa_nil)))) (by
      rintro D σ H ⟨a, dx, ta, la, sd, n, pt, T, p, o2, o3, o5, o6, o7, o8, o9, rfl, hob, hTr, hp, hht, hpt, q⟩
      have hpl := hTr
      obtain ⟨dx', fv, L, S, h1, h2, h3, h4⟩ := hTr
      refine ⟨_, rfl, _, rfl, ?_⟩
      dsimp only [L2.tNoPart]
      refine rSlA_all hpt fun tp H2 s2 htp => ?_
      rw [show cutV (pth T p (p.length + 1)) (some (1 : Int)) none = (pth T p (p.length + 1)).drop 1 from cut_drop _ 1] at htp
      refine ⟨tp, rfl, ⟨_, htp⟩, fun Dl hDl => lc_tup (K := K) (a := tp) (xs := (pth T p (p.length + 1)).drop 1) (fun k H' => Same H2 H' ∧ H' Dl = some (.lst (sidesV p n k))) ⟨same_new hDl, upd_same⟩ (fun k H' _ hh => same_sqt hh.1 htp) ?_ ?_⟩
      · rintro k xv H3 hk ⟨s3, hD3⟩
        rw [List.getElem?_drop] at hk
        have hkl := (List.getElem?_eq_some_iff.mp hk).1
        rw [pth_len] at hkl
        rw [pth_at (by omega)] at hk
        obtain rfl := Option.some.inj hk
        have sA := s2.trans s3
        have hpa : p.take (1 + k) ∈ ad T := pre_ad (lv_ad hp) (List.take_prefix ..)
        obtain ⟨v, hv1, hv2⟩ := h2.node (k := 4) (by decide) hpa
        refine ⟨rfl, ?_⟩
        refine ⟨_, rfl, a, CS, dx, _, _, rfl, sA _ _ hob, SC.cl, SC.nT, rfl, ta, C, dx', _, _, rfl, sA _ _ h1.ob, TC.cl, TC.n4, stF_4 _ _, _, rfl, L 4, _, _, _, rfl, rfl, SqL.of (sA _ _ (h1.ls 4 (by decide))), hv1, ?_⟩
        have ev : v = .int (itm p n k) := by
          have z : v = .int (sideI (p.take (1 + k))) := hv2
          rw [z, show 1 + k = k + 1 by omega, sideI_take (by omega) n]
        refine ⟨_, hD3, small1000 (by rw [sidesV_len]; have := hpl; have z1 := ht_path hp; omega), same_mut s3 hDl, ?_⟩
        rw [upd_same, sidesV_succ, ev]
      · rintro H3 ⟨s3, hD3⟩
        rw [List.length_drop, pth_len] at hD3
        refine ⟨_, rfl, (by show 1 ≤ sizeLine; decide), fun l2 hl2 => ?_⟩
        have sB := s2.trans (s3.trans (same_new (o := .lst [.int n]) hl2))
        refine ⟨Dl, l2, _, _, rfl, rfl, same_new hl2 _ _ hD3, upd_same, (by rw [sidesV_len]; have := sizeLine_eq; have z1 := ht_path hp; show p.length + 1 - 1 + 1 ≤ _; omega), fun l hl => ?_⟩
        refine q _ l (sB.trans (same_new hl)) (sB.free hl) ?_
        rw [upd_same, sidesV_succ, itm_end]
        rfl)) 
    (pss_cons (ps_for (passes_of rfl) rfl (pi_zip3 (by rfl) hz (pa_cons (pv 4) (pa_cons (pv 3) (pa_cons (pv 6) pa_nil)))) (pg_tup (by rfl) (pgs_cons (pg_name (i := 5) sc_Standing_push.nd rfl (Or.inl rfl)) (pgs_cons (pg_name (i := 7) sc_Standing_push.nd rfl (Or.inl rfl)) (pgs_cons (pg_name (i := 8) sc_Standing_push.nd rfl (Or.inl rfl)) pgs_nil)))) 
      (pss_cons (ps_set (i := 9) sc_Standing_push.nd rfl (.inl rfl) (pe_ix ix_list (pe_fld (pv 0) rfl) (pv 5) (fun _ _ => rfl))) 
      (pss_one (ps_expr (pe_bm PySem.F.plainAttrs_list PySem.F.slot_list_insert PySem.F.type_list_insert mt_insert (pv 9) (pa_cons (pe_c0 GB hr (by decide) rfl (pa_cons (pv 9) (pa_cons (pv 7) pa_nil))) (pa_cons (pe_tup (pa_cons (pv 7) (pa_cons (pv 8) pa_nil))) pa_nil))))))) 
    (pss_one (ps_dput hu (pe_fld (pv 0) rfl) (pv 1) (pv 2) rfl)))))))), ?_⟩
  obtain ⟨dx, hob⟩ := st.obj
  have hTr := st.tree
  refine ⟨_, rfl, _, rfl, a, dx, ta, la, sd, x, o, kv, rfl, hob, st.se, hx, fun hA => ?_, fun hA => q1 hA⟩
  refine ⟨_, rfl, a, CS, dx, _, _, rfl, hob, SC.cl, SC.nT, rfl, _, rfl, ta, y, oq, T, "queue", rfl, hTr, hy, fun hB => ?_, fun hB => q2 hA hB H (fun _ _ z => z)⟩
  obtain ⟨i, p, hp, rfl⟩ := below_lv hB
  obtain rfl : y = .int (i : Nat) := hy
  refine ⟨_, rfl, a, CS, dx, _, _, rfl, hob, SC.cl, SC.nT, rfl, _, rfl, _, rfl, ta, i, z, T, p, d, rfl, hTr, hp, dp_same offS_same hd, hdl, fun H1 s1 => ?_⟩
  refine ⟨_, _, rfl, fun hF => ?_, fun hF => q3 hA i p rfl hp hF H1 s1⟩
  obtain ⟨rs, rfl, hrl, hrs⟩ := fit_ranks hF
  obtain ⟨n, rfl⟩ : ∃ n, o = some n := by
    cases o with
    | none => exact nomatch hA
    | some n => exact ⟨n, rfl⟩
  obtain rfl : x = .int n := hx
  have st1 := st.same s1
  obtain ⟨dx', fv, LL, SS, h1, h2, h3, h4⟩ := st1.tr
  have hp9 := h2 9 (by decide)
  obtain ⟨v9, e9, b9, rfl, hb9⟩ := Paired.at hp9 (show (aof 9 T)[i]? = some p from hp)
  have hpl : p ∈ lv T := List.mem_of_getElem? hp
  have hpth := ht_path hpl
  refine ⟨_, rfl, a, CS, dx, _, _, rfl, s1 _ _ hob, SC.cl, SC.nT, rfl, ta, C, dx', _, _, rfl, (offS_some h1.ob).2, TC.cl, TC.n9, stF_9 _ _, _, rfl, LL 9, _, _, _, rfl, rfl, SqL.of (offS_some (h1.ls 9 (by decide))).2, atI_nat e9, ?_⟩
  refine ⟨a, dx, ta, la, sd, n, b9, T, p, _, _, _, _, _, _, _, rfl, s1 _ _ hob, st1.tree, hpl, hht, same_sqt offS_same hb9, fun H2 il s2 hil0 hil => ?_⟩
  have st2 := st1.same s2
  have g2 := offS_grow (S := S) (N := []) s2 (fun y hy => nomatch hy)
  have hb2 : SqT K (offS S H2) b9 (pth T p (p.length + 1)) := same_sqt g2 hb9
  have hd2 : Dp K (offS S H2) z (.tuple (rs.map intsD)) := dp_same g2 (dp_same (offS_grow (S := S) (N := []) s1 (fun y hy => nomatch hy)) hd)
  have sA := s1.trans s2
  have hilS : il ∉ sd :: Ls := fun hm => st1.al il (st1.sub il hm) hil0
  generalize hz0 : V.ref b9 = b9v
  cases hd2 with
  | @tup zb zs _ hzs hza =>
  subst hz0
  have hzl := dps_len hza
  rw [List.length_map, hrl] at hzl
  refine ⟨_, rfl, _, rfl, _, rfl, b9, zb, il, pth T p (p.length + 1), zs, sidesV p n (p.length + 1), rfl, same_sqt offS_same hb2, same_sqt offS_same hzs, SqL.of hil, ?_⟩
  refine for_zip3 (K := K) (a := b9) (b := zb) (c := il) (xs := pth T p (p.length + 1)) (ys := zs) (zs := sidesV p n (p.length + 1)) (by rw [pth_len, hzl]) (by rw [pth_len, sidesV_len])
    (fun k σ H' => ∃ o5 o7 o8 o9, σ = [some (.ref a), some (.int n), some (.int (i : Nat)), some (.ref zb), some (.ref b9), o5, some (.ref il), o7, o8, o9] ∧ GoS (sd :: Ls) H2 H' ∧ StE K C CS S H' a ta la sd Ls T (pshK p rs n L k) kv)
    ⟨none, none, none, none, rfl, GoS.refl, by rw [pshK_zero]; exact st2⟩ ?_ ?_ ?_
  · rintro k σ H' ⟨o5, o7, o8, o9, rfl, g, s'⟩
    have gs : Same (offS S H2) (offS S H') := (g.wide s'.sub).s
    exact ⟨same_sqt (gs.trans offS_same) hb2, same_sqt (gs.trans offS_same) hzs, SqL.of (g.at hil hilS)⟩
  · rintro k x1 y1 u1 T1 σ H' hx1 hy1 hu1 ⟨o5, o7, o8, o9, rfl, g, s'⟩ hT1
    have hkl := (List.getElem?_eq_some_iff.mp hx1).1
    rw [pth_len] at hkl
    rw [pth_at hkl] at hx1
    rw [sidesV_at hkl] at hu1
    obtain rfl := Option.some.inj hx1
    obtain rfl := Option.some.inj hu1
    have gs : Same (offS S H2) (offS S H') := (g.wide s'.sub).s
    obtain ⟨r, hr1, hr2⟩ := dp_ranks hza hy1
    have hq : p.take k ∈ ad T := pre_ad (lv_ad hpl) (List.take_prefix ..)
    have s3 := s'.same (same_new (o := .tup [V.int (T.idx (p.take k) : Nat), y1, V.int (itm p n k)]) hT1)
    have g3 := g.new (v := .tup [V.int (T.idx (p.take k) : Nat), y1, V.int (itm p n k)]) hT1
    have hT3 : (upd H' T1 (.tup [V.int (T.idx (p.take k) : Nat), y1, V.int (itm p n k)])) T1 = some (.tup [V.int (T.idx (p.take k) : Nat), y1, V.int (itm p n k)]) := upd_same
    revert s3 g3 hT3
    generalize upd H' T1 (.tup [V.int (T.idx (p.take k) : Nat), y1, V.int (itm p n k)]) = H3
    intro s3 g3 hT3
    refine ⟨T1, _, rfl, SqT.of hT3, rfl, ?_⟩
    refine ⟨_, _, rfl, _, _, rfl, _, _, rfl, rfl, ?_⟩
    obtain ⟨dx3, hob3⟩ := s3.obj
    obtain ⟨l, xs, k1, k2, k3⟩ := s3.li _ hq
    rw [pshK_at p rs n L k (by omega)] at k3
    have gs3 : Same (offS S H2) (offS S H3) := (g3.wide s3.sub).s
    have hy3 : Dp K (offS S H3) y1 (intsD r) := dp_same gs3 hr2
    have hrr := hrs r (List.mem_of_getElem? hr1)
    have hkS : RkOK (L (p.take k)) := st.rk _
    have hkA : Asc1 (L (p.take k)) := st.pw _
    have hll := dps_len k3
    rw [List.length_map] at hll
    refine ⟨_, rfl, a, CS, dx3, _, _, rfl, hob3, SC.cl, SC.nL, rfl, _, rfl, la, _, _, _, rfl, rfl, SqL.of s3.lst, (atI_nat (by rw [List.getElem?_map, k1]; rfl)), ?_⟩
    refine ⟨_, rfl, .inl ⟨rfl, _, SqL.of k2⟩, ?_⟩
    refine ⟨_, rfl, _, rfl, l, y1, xs, _, intsD r, rfl, SqL.of k2, dps_same offS_same k3, dp_same offS_same hy3, line_en hkS hkA, hrr, (by rw [List.length_map]; have := hL (p.take k); omega), fun m hm => ?_⟩
    rw [rksOf_en, rkInts_ints] at hm
    have hml := hm.le
    rw [List.length_map] at hml
    refine ⟨_, rfl, _, rfl, (by show 2 ≤ sizeLine; decide), fun t ht => ?_⟩
    have s4 := s3.same (same_new (o := .tup [y1, V.int (itm p n k)]) ht)
    have g4 := g3.new (v := .tup [y1, V.int (itm p n k)]) ht
    have gg : Same (offS S H3) (offS S (upd H3 t (.tup [y1, V.int (itm p n k)]))) := (GoS.of (same_new ht)).s
    have ht4 : (upd H3 t (.tup [y1, V.int (itm p n k)])) t = some (.tup [y1, V.int (itm p n k)]) := upd_same
    have k24 : (upd H3 t (.tup [y1, V.int (itm p n k)])) l = some (.lst xs) := same_new ht _ _ k2
    have htS : t ∉ S := fun z => s3.al t z ht
    revert s4 g4 gg ht4 k24
    generalize upd H3 t (.tup [y1, V.int (itm p n k)]) = H4
    intro s4 g4 gg ht4 k24
    have hsl := sizeLine_eq
    have hLk := hL (p.take k)
    refine ⟨l, xs, (m : Nat), .ref t, rfl, rfl, k24, by omega, by omega, by omega, ?_⟩
    rw [Int.toNat_natCast]
    have hent : Dp K (offS S H4) (.ref t) (enD (r, itm p n k)) := .tup (SqT.of (by rw [offS_ne htS]; exact ht4)) (.cons (dp_same gg hy3) (.cons (.int _) .nil))
    have hins := take_insE (e := (r, itm p n k)) hkA hm
    have hnew := dps_ins (v := .ref t) (dps_same gg k3) hent hins
    have hlM : l ∈ sd :: Ls := List.mem_cons_of_mem _ (List.mem_of_getElem? k1)
    refine ⟨_, _, _, _, rfl, g4.upd hlM, ?_⟩
    have fin := s4.setL (q := p.take k) hq k1 hnew (insE_rk hkS hrr) (insE_asc hkA)
    rw [pshK_succ p rs n L k (by omega)]
    have er : rs.getD k [] = r := by
      rw [List.getD_eq_getElem?_getD, hr1]
      rfl
    rw [er]
    exact fin
  · rintro σ H' ⟨o5, o7, o8, o9, rfl, g, s'⟩
    rw [pth_len, pshK_full] at s'
    obtain ⟨dx3, hob3⟩ := s'.obj
    have hsl := sizeLine_eq
    refine ⟨_, rfl, _, rfl, a, CS, dx3, _, _, rfl, hob3, SC.cl, SC.nS, rfl, _, rfl, sd, _, rfl, .inl ⟨kv, (Sum.inl n : Key), s'.se, rfl, by omega, rfl⟩, ?_⟩
    exact q4 hA n i p rs rfl rfl hp rfl hrl hrs _ (((GoS.of sA).trans g).upd (List.mem_cons_self ..)) (s'.setS _)
end
end K26
set_option Elab.async false
set_option linter.all false
set_option maxRecDepth 100000
set_option maxHeartbeats 4000000
namespace K26
open PySem PySem.Spec PyProof.Rows L2 Dt
/-! ### the queues of the packets -/
theorem valV_drop (k k' : Key) : ∀ kvs : List (Key × V), valV (dropK kvs k) k' = if k' = k then none else valV kvs k'
  | [] => by
    unfold valV dropK
    split <;> rfl
  | (k0, v) :: kvs => by
    have ih := valV_drop k k' kvs
    unfold valV dropK at ih ⊢
    rw [List.filter_cons]
    by_cases e : k0 = k
    · rw [if_neg (by simp [e])]
      rw [ih]
      by_cases z : k' = k
      · rw [if_pos z, if_pos z]
      · rw [if_neg z, if_neg z, List.find?_cons_of_neg (by simp [e]; exact Ne.symm z)]
    · rw [if_pos (by simpa using e)]
      by_cases z : k0 = k'
      · subst z
        rw [List.find?_cons_of_pos (by simp), List.find?_cons_of_pos (by simp), if_neg e]
      · rw [List.find?_cons_of_neg (by simpa using z), List.find?_cons_of_neg (by simpa using z), ih]
theorem valV_put (k k' : Key) (v : V) (kvs : List (Key × V)) : valV (putK kvs k v) k' = if k' = k then some v else valV kvs k' := by
  unfold putK
  by_cases h : (kvs.any fun kv => decide (kv.1 = k)) = true
  · rw [if_pos h]
    revert h
    induction kvs with
    | nil => exact fun h => nomatch h
    | cons e kvs ih =>
      obtain ⟨k0, v0⟩ := e
      intro h
      unfold valV
      rw [List.map_cons]
      by_cases e : k0 = k
      · subst e
        dsimp only
        rw [if_pos rfl]
        by_cases z : k' = k0
        · subst z
          rw [if_pos rfl, List.find?_cons_of_pos (by simp)]
          rfl
        · rw [if_neg z, List.find?_cons_of_neg (by simpa using Ne.symm z), List.find?_cons_of_neg (by simpa using Ne.symm z)]
          have : ∀ l : List (Key × V), (l.map fun kv => if kv.1 = k0 then (kv.1, v) else kv).find? (fun kv => decide (kv.1 = k')) = l.find? (fun kv => decide (kv.1 = k')) := by
            intro l
            induction l with
            | nil => rfl
            | cons y l ih2 =>
              rw [List.map_cons]
              by_cases q : y.1 = k0
              · rw [if_pos q, List.find?_cons_of_neg (by simp [q]; exact Ne.symm z), List.find?_cons_of_neg (by simp [q]; exact Ne.symm z), ih2]
              · rw [if_neg q]
                by_cases q2 : y.1 = k'
                · rw [List.find?_cons_of_pos (by simpa using q2), List.find?_cons_of_pos (by simpa using q2)]
                · rw [List.find?_cons_of_neg (by simpa using q2), List.find?_cons_of_neg (by simpa using q2), ih2]
          rw [this]
      · dsimp only
        rw [if_neg e]
        rw [List.any_cons, decide_eq_false e, Bool.false_or] at h
        have ih := ih h
        unfold valV at ih
        by_cases z : k0 = k'
        · subst z
          rw [List.find?_cons_of_pos (by simp), List.find?_cons_of_pos (by simp), if_neg e]
        · rw [List.find?_cons_of_neg (by simpa using z), List.find?_cons_of_neg (by simpa using z), ih]
  · rw [if_neg h]
    unfold valV
    rw [List.find?_append]
    by_cases z : k' = k
    · subst z
      rw [if_pos rfl]
      have : kvs.find? (fun kv => decide (kv.1 = k')) = none := by
        rw [List.find?_eq_none]
        intro y hy q
        exact h (List.any_eq_true.mpr ⟨y, hy, q⟩)
      rw [this]
      simp
    · rw [if_neg z]
      have : ([(k, v)] : List (Key × V)).find? (fun kv => decide (kv.1 = k')) = none := by
        rw [List.find?_cons_of_neg (by simpa using Ne.symm z)]
        rfl
      rw [this, Option.or_none]
theorem valV_some {kvs : List (Key × V)} {e : Key × V} (h : e ∈ kvs) : ∃ v, valV kvs e.1 = some v := by
  unfold valV
  cases q : kvs.find? (fun kv => decide (kv.1 = e.1)) with
  | some y => exact ⟨y.2, rfl⟩
  | none =>
    rw [List.find?_eq_none] at q
    exact absurd (decide_eq_true rfl) (q e h)
structure Seat (T : Dt) (L : Lns) (kv : List (Key × V)) : Prop where
  to : ∀ n i p, (lv T)[i]? = some p → n ∈ its (L p) → valV kv (Sum.inl n : Key) = some (.int (i : Nat))
  fr : ∀ k v, valV kv k = some v → ∃ n i p, k = Sum.inl n ∧ v = .int (i : Nat) ∧ (lv T)[i]? = some p ∧ n ∈ its (L p)
  nd : ∀ p ∈ lv T, (its (L p)).Nodup
theorem leaf_pre {T : Dt} {p q : Ad} (hp : p ∈ lv T) (hq : q ∈ lv T) (h : q <+: p) : q = p := by
  obtain ⟨s, rfl⟩ := h
  obtain ⟨w, h1, h2⟩ := lv_lf hq
  obtain ⟨w', h3, _⟩ := lv_lf hp
  cases s with
  | nil => rw [List.append_nil]
  | cons j s =>
    rw [(sub_app T q w h1 (j :: s)).1] at h3
    obtain ⟨k, hk, _⟩ := sub_len h3
    have := kid_lt hk
    omega
theorem lv_nodup (T : Dt) : (lv T).Nodup := (ad_nodup T).filter _
theorem lv_inj {T : Dt} {p q : Ad} {i : Nat} (h : (lv T)[i]? = some p) (g : (lv T)[i]? = some q) : p = q := Option.some.inj (h.symm.trans g)
theorem lv_i {T : Dt} {p : Ad} {i j : Nat} (h : (lv T)[i]? = some p) (g : (lv T)[j]? = some p) : i = j := by
  obtain ⟨h1, h2⟩ := List.getElem?_eq_some_iff.mp h
  obtain ⟨g1, g2⟩ := List.getElem?_eq_some_iff.mp g
  exact (List.getElem_inj (lv_nodup T)).mp (h2.trans g2.symm)
theorem dep_lv {T : Dt} {L : Lns} {n : Int} {p : Ad} {rs : List (List Int)} (d : Dep T L n p rs) : p ∈ lv T := by
  obtain ⟨w, h1, h2⟩ := d.lf
  refine List.mem_filter.mpr ⟨sub_ad h1, ?_⟩
  rw [isLf_o h1, h2]
  rfl
theorem cutL_leaf {T : Dt} {L : Lns} {p q : Ad} (hp : p ∈ lv T) (hq : q ∈ lv T) (h : q ≠ p) : cutL p L q = L q := if_neg fun z => h (leaf_pre hp hq z)
theorem cutL_self (p : Ad) (L : Lns) : cutL p L p = (L p).tail := if_pos (List.prefix_refl p)
theorem pshL_leaf {T : Dt} {L : Lns} {p q : Ad} {rs : List (List Int)} {n : Int} (hp : p ∈ lv T) (hq : q ∈ lv T) (h : q ≠ p) : pshL p rs n L q = L q := if_neg fun z => h (leaf_pre hp hq z)
theorem pshL_self (p : Ad) (rs : List (List Int)) (n : Int) (L : Lns) : (its (pshL p rs n L p)).Perm (n :: its (L p)) := by
  unfold pshL
  rw [if_pos (List.prefix_refl p), itm_end]
  exact (insE_perm _ _).map _
theorem Seat.cut {T : Dt} {L : Lns} {kv : List (Key × V)} {n : Int} {p : Ad} {rs : List (List Int)} (s : Seat T L kv) (d : Dep T L n p rs) : Seat T (cutL p L) (dropK kv (Sum.inl n : Key)) := by
  have hp := dep_lv d
  obtain ⟨r, t, hL, _⟩ := d.la
  have hn : n ∈ its (L p) := by rw [hL]; exact List.mem_cons_self ..
  have hnd := s.nd p hp
  rw [hL] at hnd
  have hnd' := List.nodup_cons.mp (show (n :: its t).Nodup from hnd)
  obtain ⟨i, hi⟩ := List.mem_iff_getElem?.mp hp
  have ht : cutL p L p = t := by rw [cutL_self, hL]; rfl
  refine ⟨fun n' i' p' h1 h2 => ?_, fun k v h => ?_, fun p' hp' => ?_⟩
  · rw [valV_drop]
    by_cases e : p' = p
    · subst e
      rw [ht] at h2
      have ne : n' ≠ n := fun z => hnd'.1 (by rw [← z]; exact h2)
      rw [if_neg (fun z => ne (Sum.inl.inj z))]
      exact s.to n' i' p' h1 (by rw [hL]; exact List.mem_cons_of_mem _ h2)
    · rw [cutL_leaf hp (List.mem_of_getElem? h1) e] at h2
      have g := s.to n' i' p' h1 h2
      rw [if_neg (fun z => ?_), g]
      have z := Sum.inl.inj z
      subst z
      rw [s.to n' i p hi hn] at g
      have : i = i' := by
        have := Option.some.inj g
        injection this with this
        omega
      subst this
      exact e (lv_inj h1 hi)
  · rw [valV_drop] at h
    by_cases e : k = Sum.inl n
    · rw [if_pos e] at h
      exact nomatch h
    · rw [if_neg e] at h
      obtain ⟨n', i', p', rfl, rfl, h1, h2⟩ := s.fr k v h
      refine ⟨n', i', p', rfl, rfl, h1, ?_⟩
      by_cases e2 : p' = p
      · subst e2
        rw [ht]
        rw [hL] at h2
        rcases List.mem_cons.mp (show n' ∈ n :: its t from h2) with z | z
        · exact absurd (congrArg Sum.inl z) e
        · exact z
      · rw [cutL_leaf hp (List.mem_of_getElem? h1) e2]
        exact h2
  · by_cases e : p' = p
    · rw [e, ht]
      exact hnd'.2
    · rw [cutL_leaf hp hp' e]
      exact s.nd p' hp'
theorem Seat.psh {T : Dt} {L : Lns} {kv : List (Key × V)} {n : Int} {p : Ad} {i : Nat} (rs : List (List Int)) (s : Seat T L kv) (hi : (lv T)[i]? = some p) (hn : valV kv (Sum.inl n : Key) = none) : Seat T (pshL p rs n L) (putK kv (Sum.inl n : Key) (.int (i : Nat))) := by
  have hp := List.mem_of_getElem? hi
  have no : ∀ p' ∈ lv T, n ∉ its (L p') := fun p' hp' z => by
    obtain ⟨i', hi'⟩ := List.mem_iff_getElem?.mp hp'
    rw [s.to n i' p' hi' z] at hn
    exact nomatch hn
  refine ⟨fun n' i' p' h1 h2 => ?_, fun k v h => ?_, fun p' hp' => ?_⟩
  · rw [valV_put]
    by_cases e : p' = p
    · subst e
      obtain rfl := lv_i h1 hi
      rcases List.mem_cons.mp ((pshL_self p' rs n L).mem_iff.mp h2) with z | z
      · rw [z, if_pos rfl]
      · rw [if_neg (fun q => no p' hp (by rw [← Sum.inl.inj q]; exact z))]
        exact s.to n' i' p' h1 z
    · rw [pshL_leaf hp (List.mem_of_getElem? h1) e] at h2
      rw [if_neg (fun q => no p' (List.mem_of_getElem? h1) (by rw [← Sum.inl.inj q]; exact h2))]
      exact s.to n' i' p' h1 h2
  · rw [valV_put] at h
    by_cases e : k = Sum.inl n
    · rw [if_pos e] at h
      exact ⟨n, i, p, e, (Option.some.inj h).symm, hi, (pshL_self p rs n L).mem_iff.mpr (List.mem_cons_self ..)⟩
    · rw [if_neg e] at h
      obtain ⟨n', i', p', rfl, rfl, h1, h2⟩ := s.fr k v h
      refine ⟨n', i', p', rfl, rfl, h1, ?_⟩
      by_cases e2 : p' = p
      · subst e2
        exact (pshL_self p' rs n L).mem_iff.mpr (List.mem_cons_of_mem _ h2)
      · rw [pshL_leaf hp (List.mem_of_getElem? h1) e2]
        exact h2
  · by_cases e : p' = p
    · subst e
      exact (pshL_self p' rs n L).nodup_iff.mpr (List.nodup_cons.mpr ⟨no p' hp, s.nd p' hp⟩)
    · rw [pshL_leaf hp hp' e]
      exact s.nd p' hp'
theorem con_empty : ∀ (q : Ad) (u w : Dt) (L : Lns), Con u L → L [] = [] → sub u q = some w → L q = []
  | [], _, _, _, _, h, _ => h
  | j :: q, u, w, L, cn, h, hq => by
    obtain ⟨k, hk, hk2⟩ := sub_len hq
    have h0 := cn.ct [] u j (sub_nil u) (kid_lt hk)
    rw [h] at h0
    have e : sh j L [] = [] := List.eq_nil_of_length_eq_zero (by rw [show sh j L [] = L ([] ++ [j]) from rfl, ← h0]; rfl)
    exact con_empty q k w (sh j L) (cn.kid hk) e hk2
theorem seat_empty {T : Dt} {L : Lns} {kv : List (Key × V)} (s : Seat T L kv) (c : Con T L) : kv = [] ↔ L [] = [] := by
  constructor
  · intro h
    by_cases e : L [] = []
    · exact e
    · obtain ⟨n, p, rs, d⟩ := dep_ex _ T L (Nat.le_refl _) c e
      obtain ⟨r, t, hL, _⟩ := d.la
      obtain ⟨i, hi⟩ := List.mem_iff_getElem?.mp (dep_lv d)
      have := s.to n i p hi (by rw [hL]; exact List.mem_cons_self ..)
      rw [h] at this
      exact nomatch this
  · intro h
    cases kv with
    | nil => rfl
    | cons e kv =>
      obtain ⟨v, hv⟩ := valV_some (List.mem_cons_self (a := e) (l := kv))
      obtain ⟨n, i, p, _, _, h1, h2⟩ := s.fr _ _ hv
      obtain ⟨w, hw, _⟩ := lv_lf (List.mem_of_getElem? h1)
      rw [con_empty p T w L c h hw] at h2
      exact nomatch h2
theorem dropK_le' (kv : List (Key × V)) (k : Key) : (dropK kv k).length ≤ kv.length := List.length_filter_le ..
theorem putK_le (kv : List (Key × V)) (k : Key) (v : V) : (putK kv k v).length ≤ kv.length + 1 := by
  unfold putK
  split
  · rw [List.length_map]
    omega
  · rw [List.length_append]
    exact Nat.le_refl _
end K26
set_option Elab.async false
set_option linter.all false
set_option maxRecDepth 100000
set_option maxHeartbeats 4000000
namespace K26
open PySem PySem.Spec PyProof.Rows L2 Dt
theorem offS_sub {S S' : List Addr} {H : Hp} (h : ∀ y ∈ S, y ∈ S') : Same (offS S' H) (offS S H) := fun y u e => by
  obtain ⟨h1, h2⟩ := offS_some e
  rw [offS_ne (fun z => h1 (h y z))]
  exact h2
theorem StE.shrink {K : PySem.W.Frag} {C CS : Addr} {S S' : List Addr} {H : Hp} {a ta la sd : Addr} {Ls : List Addr} {T : Dt} {L : Lns} {kv : List (Key × V)} (s : StE K C CS S' H a ta la sd Ls T L kv) (h : ∀ y ∈ S, y ∈ S') (g : ∀ y ∈ sd :: Ls, y ∈ S) : StE K C CS S H a ta la sd Ls T L kv := by
  have gs := offS_sub (H := H) h
  obtain ⟨dx, ob⟩ := s.ob
  refine ⟨g, fun y hy => s.al y (h y hy), s.nd, ⟨dx, gs _ _ ob⟩, s.tr.same gs, gs _ _ s.ln, s.len, fun q hq => ?_, s.se, s.rk, s.pw⟩
  obtain ⟨l, xs, h1, h2, h3⟩ := s.li q hq
  exact ⟨l, xs, h1, h2, dps_same gs h3⟩
/-- a new mutable object -/
theorem StE.with {K : PySem.W.Frag} {C CS : Addr} {S : List Addr} {H : Hp} {a ta la sd : Addr} {Ls : List Addr} {T : Dt} {L : Lns} {kv : List (Key × V)} (s : StE K C CS S H a ta la sd Ls T L kv) {p : Addr} {v : HO} (h : H p = none) : StE K C CS (p :: S) (upd H p v) a ta la sd Ls T L kv :=
  s.grow (N := [p]) (same_new h) (fun y hy => by rw [List.mem_singleton.mp hy]; exact h) fun y hy => by
    rw [List.mem_singleton.mp hy, upd_same]
    exact fun z => nomatch z
theorem GoS.mutNew {S : List Addr} {H H' : Hp} {p : Addr} {v : HO} (g : GoS S H H') (h : H p = none) : GoS S H (L2.upd H' p v) := ⟨fun y u e => by
  obtain ⟨h1, h2⟩ := offS_some e
  have h3 := g.at h2 h1
  rw [offS_ne h1, upd_ne (fun z => by rw [z, h] at h2; exact nomatch h2)]
  exact h3, fun y hy => by
  by_cases z : y = p
  · rw [z, upd_same]
    exact fun q => nomatch q
  · rw [upd_ne z]
    exact g.k y hy⟩
/-- one of the mutable objects is mutated, none of the standing's -/
theorem StE.mut {K : PySem.W.Frag} {C CS : Addr} {S : List Addr} {H : Hp} {a ta la sd : Addr} {Ls : List Addr} {T : Dt} {L : Lns} {kv : List (Key × V)} (s : StE K C CS S H a ta la sd Ls T L kv) {p : Addr} {v : HO} (h : p ∈ S) (n : p ∉ sd :: Ls) : StE K C CS S (upd H p v) a ta la sd Ls T L kv :=
  s.keep (M := [p]) (GoS.refl.upd (List.mem_singleton.mpr rfl)) (fun y hy => by rw [List.mem_singleton.mp hy]; exact h) fun y hy => by rw [List.mem_singleton.mp hy]; exact n
/-- the lines when the first k entries are taken -/
def cutK (p : Ad) (L : Lns) (k : Nat) : Lns := fun q => if q <+: p ∧ q.length < k then (L q).tail else L q
theorem cutK_zero (p : Ad) (L : Lns) : cutK p L 0 = L := by
  funext q
  unfold cutK
  rw [if_neg (fun z => absurd z.2 (Nat.not_lt_zero _))]
theorem cutK_full (p : Ad) (L : Lns) : cutK p L (p.length + 1) = cutL p L := by
  funext q
  unfold cutK cutL
  by_cases h : q <+: p
  · rw [if_pos ⟨h, by have := h.length_le; omega⟩, if_pos h]
  · rw [if_neg (fun z => h z.1), if_neg h]
theorem cutK_succ (p : Ad) (L : Lns) (k : Nat) (hk : k ≤ p.length) : cutK p L (k + 1) = fun q => if q = p.take k then (L (p.take k)).tail else cutK p L k q := by
  funext q
  have hl : (p.take k).length = k := by rw [List.length_take]; omega
  by_cases e : q = p.take k
  · rw [if_pos e, e]
    unfold cutK
    rw [if_pos ⟨List.take_prefix .., by omega⟩]
  · rw [if_neg e]
    unfold cutK
    by_cases h : q <+: p ∧ q.length < k
    · rw [if_pos h, if_pos ⟨h.1, by omega⟩]
    · rw [if_neg h, if_neg (fun z => ?_)]
      have : q.length = k := by
        have h1 : ¬ q.length < k := fun y => h ⟨z.1, y⟩
        omega
      refine e ?_
      rw [← this]
      exact (List.prefix_iff_eq_take.mp z.1)
theorem cutK_at (p : Ad) (L : Lns) (k : Nat) (hk : k ≤ p.length) : cutK p L k (p.take k) = L (p.take k) := by
  have hl : (p.take k).length = k := by rw [List.length_take]; omega
  unfold cutK
  rw [if_neg (fun z => by omega)]
theorem kidV_at {T w : Dt} {q : Ad} {j : Nat} (h : j < w.len) : (kidV T q w)[j]? = some (V.int (T.idx (q ++ [j]) : Nat)) := by
  unfold kidV
  rw [List.getElem?_map, List.getElem?_range h]
  rfl
theorem Dep.fork {T : Dt} {L : Lns} {n : Int} {p : Ad} {rs : List (List Int)} (d : Dep T L n p rs) {k : Nat} (hk : k < p.length) {w : Dt} (hw : sub T (p.take k) = some w) : p[k] < w.len := by
  obtain ⟨w', h1, _⟩ := d.lf
  have h2 := (sub_app T (p.take k) w hw (p.drop k)).1
  rw [List.take_append_drop, h1, List.drop_eq_getElem_cons hk] at h2
  obtain ⟨k', hk', _⟩ := sub_len h2.symm
  exact kid_lt hk'
def depD (n : Int) (i : Nat) (rs : List (List Int)) : PyData := .tuple [.int n, .int (i : Nat), .tuple (rs.map intsD)]
def spDepart (K : PySem.W.Frag) (C CS : Addr) : Sp := fun vs H Q _ => ∃ (a ta la sd : Addr) (S Ls : List Addr) (T : Dt) (L : Lns) (kv : List (Key × V)), vs = [.ref a] ∧ StE K C CS S H a ta la sd Ls T L kv ∧ T.ht < 20 ∧ Con T L ∧ Seat T L kv ∧ (∀ q, (L q).length ≤ 100000) ∧
  (L [] = [] → Q .non H) ∧
  (∀ n p rs i, Dep T L n p rs → (lv T)[i]? = some p → ∀ H' v, GoS (sd :: Ls) H H' → StE K C CS S H' a ta la sd Ls T (cutL p L) (dropK kv (Sum.inl n : Key)) → H v = none → Dp K (offS S H') (.ref v) (depD n i rs) → Q (.ref v) H')
theorem dps_tail {K : PySem.W.Frag} {H : Hp} {xs : List V} {l : List En} {e : En} (h : DpAll K H xs ((e :: l).map enD)) : ∃ b rv, xs = .ref b :: xs.tail ∧ DpAll K H xs.tail (l.map enD) ∧ SqT K H b [rv, .int e.2] ∧ Dp K H rv (intsD e.1) := by
  cases h with
  | cons h t =>
    cases h with
    | @tup b ys _ hs ha =>
      cases ha with
      | cons h1 ha =>
        cases ha with
        | cons h2 ha =>
          cases ha
          cases h2
          exact ⟨b, _, rfl, t, hs, h1⟩
theorem rk_tail {l : List En} {e : En} (h : RkOK (e :: l)) : RkOK l := fun y hy => h y (List.mem_cons_of_mem _ hy)
theorem asc_tail {l : List En} {e : En} (h : Asc1 (e :: l)) : Asc1 l := (List.pairwise_cons.mp (show ((e :: l).map (·.1)).Pairwise _ from h)).2
theorem dps_snoc' {K : PySem.W.Frag} {H : Hp} {xs : List V} {ds : List PyData} {v : V} {d : PyData} (h : DpAll K H xs ds) (g : Dp K H v d) : DpAll K H (xs ++ [v]) (ds ++ [d]) := dps_app h (.cons g .nil)
theorem seqIndex0 (n : Nat) : seqIndex? 0 (n + 1) = some 0 := by
  unfold seqIndex?
  simp
section
variable {P : Program} {w : World} {K : PySem.W.Frag} {mg : Str → Option Value} {base : Heap} {C CS U fG : Addr}
theorem ok_depart {f : Addr} {fd : FuncData} (F : Fun K "depart" "Standing.depart" s_Standing_depart f fd) (T0 : Txt K mg) (SC : StCl K CS) (TC : TCl K mg C fG) : FnOk P w K mg base CX0 5 f fd ["self"] (spDepart K C CS) := by
  refine F.ok sc_Standing_depart (fun vs H Q E h => ?_) (fun cdv A outer s H vs Q E hr h => ?_)
  · obtain ⟨a, ta, la, sd, S, Ls, T, L, kv, rfl, _⟩ := h
    rfl
  obtain ⟨a, ta, la, sd, S, Ls, T, L, kv, rfl, st, hht, con, seat, hL, q1, q2⟩ := h
  have hu := hu_of hr
  refine ⟨_, (pss_cons (ps_if (pt_not (pt_truth (pe_fld (pv 0) rfl) (by intro _; rfl))) 
      (pss_one (ps_ret pe_non)) pss_nil) 
    (pss_cons (ps_set (i := 1) sc_Standing_depart.nd rfl (.inl rfl) (pe_lst pa_nil)) 
    (pss_cons (ps_set (i := 2) sc_Standing_depart.nd rfl (.inl rfl) pe_int) 
    (pss_cons (ps_while PassesOwn.never (pt_truth (pe_ix ix_list (pe_fld (pe_fld (pv 0) rfl) rfl) (pv 2) (fun _ _ => rfl)) (by intro _; rfl)) 
      (pss_cons (ps_asg (pe_bm PySem.F.plainAttrs_list PySem.F.slot_list_pop PySem.F.type_list_pop mt_popAt (pe_ix ix_list (pe_fld (pv 0) rfl) (pv 2) (fun _ _ => rfl)) (pa_cons pe_int pa_nil)) (pg_tup (by rfl) (pgs_cons (pg_name (i := 3) sc_Standing_depart.nd rfl (Or.inl rfl)) (pgs_cons (pg_name (i := 4) sc_Standing_depart.nd rfl (Or.inl rfl)) pgs_nil)))) 
      (pss_cons (ps_expr (pe_bm PySem.F.plainAttrs_list PySem.F.slot_list_append PySem.F.type_list_append mt_append (pv 1) (pa_cons (pv 3) pa_nil))) 
      (pss_one (ps_set (i := 2) sc_Standing_depart.nd rfl (.inl rfl) (pe_ix ix_tup (pe_ix ix_list (pe_fld (pe_fld (pv 0) rfl) rfl) (pv 2) (fun _ _ => rfl)) (pv 4) (fun _ _ => rfl))))))) 
    (pss_cons (ps_asg (pe_bm PySem.F.plainAttrs_list PySem.F.slot_list_pop PySem.F.type_list_pop mt_popAt (pe_ix ix_list (pe_fld (pv 0) rfl) (pv 2) (fun _ _ => rfl)) (pa_cons pe_int pa_nil)) (pg_tup (by rfl) (pgs_cons (pg_name (i := 3) sc_Standing_depart.nd rfl (Or.inl rfl)) (pgs_cons (pg_name (i := 5) sc_Standing_depart.nd rfl (Or.inl rfl)) pgs_nil)))) 
    (pss_cons (ps_expr (pe_bm PySem.F.plainAttrs_list PySem.F.slot_list_append PySem.F.type_list_append mt_append (pv 1) (pa_cons (pv 3) pa_nil))) 
    (pss_cons (ps_set (i := 6) sc_Standing_depart.nd rfl (.inl rfl) (pe_dpop1 (pe_fld (pv 0) rfl) (pv 5) ⟨rfl, rfl, rfl, rfl⟩)) 
    (pss_one (ps_ret (pe_tup (pa_cons (pv 5) (pa_cons (pv 6) (pa_cons (pe_callTy call_tuple_of (by rfl) T0.tuple PyProof.Rows.boot_tuple (pa_cons (pv 1) pa_nil)) pa_nil))))))))))))), ?_⟩
  obtain ⟨dx, hob⟩ := st.obj
  refine ⟨_, rfl, a, CS, dx, _, _, rfl, hob, SC.cl, SC.nS, rfl, !kv.isEmpty, .inr (.inr ⟨kv, st.se, rfl⟩), ?_⟩
  by_cases he : L [] = []
  · have := (seat_empty seat con).mpr he
    subst this
    refine iteT ?_
    exact q1 he
  have hkn : kv.isEmpty = false := by
    cases kv with
    | nil => exact absurd ((seat_empty seat con).mp rfl) he
    | cons _ _ => rfl
  rw [hkn]
  refine iteF ?_
  obtain ⟨n, p, rs, d⟩ := dep_ex _ T L (Nat.le_refl _) con he
  have hp := dep_lv d
  have hpth := ht_path hp
  obtain ⟨i, hi⟩ := List.mem_iff_getElem?.mp hp
  refine ⟨(by show 0 ≤ sizeLine; decide), fun rl hrl => ?_⟩
  have st1 := st.with (v := .lst []) hrl
  have hrlS : rl ∉ sd :: Ls := fun z => st.al rl (st.sub rl z) hrl
  have hrlm : rl ∈ rl :: S := List.mem_cons_self ..
  have g1 : GoS (sd :: Ls) H (upd H rl (.lst [])) := GoS.refl.new hrl
  have hr1 : (upd H rl (.lst [])) rl = some (.lst []) := upd_same
  revert st1 g1 hr1
  generalize upd H rl (.lst []) = H1
  intro st1 g1 hr1
  refine ⟨fun m σ H' => ∃ (k : Nat) (o3 o4 : Option V) (vs : List V), σ = [some (.ref a), some (.ref rl), some (.int (T.idx (p.take k) : Nat)), o3, o4, none, none] ∧ m = p.length - k ∧ k ≤ p.length ∧ GoS (sd :: Ls) H H' ∧ StE K C CS (rl :: S) H' a ta la sd Ls T (cutK p L k) kv ∧ H' rl = some (.lst vs) ∧ DpAll K (offS (rl :: S) H') vs ((rs.take k).map intsD),
    ⟨p.length, 0, none, none, [], by rw [List.take_zero, idx_nil]; rfl, rfl, Nat.zero_le _, g1, by rw [cutK_zero]; exact st1, hr1, .nil⟩, ?_⟩
  rintro m σ H2 ⟨k, o3, o4, vs, rfl, rfl, hk, g2, st2, hr2, hv2⟩
  obtain ⟨dx2, hob2⟩ := st2.obj
  have hq : p.take k ∈ ad T := pre_ad (lv_ad hp) (List.take_prefix ..)
  obtain ⟨dx', fv, LL, SS, h1, h2, h3, h4⟩ := st2.tree
  obtain ⟨v2, e2, u, b2, hu2, rfl, hb2⟩ := h2.node (k := 2) (by decide) hq
  obtain ⟨l, xs, k1, k2, k3⟩ := st2.li _ hq
  rw [cutK_at p L k hk] at k3
  have hlM : l ∈ sd :: Ls := List.mem_cons_of_mem _ (List.mem_of_getElem? k1)
  have nrl : rl ≠ l := fun z => hrlS (by rw [z]; exact hlM)
  refine ⟨_, rfl, a, CS, dx2, _, _, rfl, hob2, SC.cl, SC.nT, rfl, ta, C, dx', _, _, rfl, h1.ob, TC.cl, TC.n2, stF_2 _ _, _, rfl, LL 2, _, _, _, rfl, rfl, SqL.of (h1.ls 2 (by decide)), e2, ?_⟩
  refine ⟨!(kidV T (p.take k) u).isEmpty, .inr (.inl ⟨_, hb2, rfl⟩), ?_⟩
  have hkl : (kidV T (p.take k) u).length = u.len := by unfold kidV; rw [List.length_map, List.length_range]
  have hvl := dps_len hv2
  rw [List.length_map, List.length_take, d.len] at hvl
  -- the entry that is taken away
  have take1 : ∀ r nn t, L (p.take k) = (r, nn) :: t → rs[k]? = some r → ∃ b rv, xs = .ref b :: xs.tail ∧ DpAll K (offS (rl :: S) H2) xs.tail (t.map enD) ∧ SqT K (offS (rl :: S) H2) b [rv, .int nn] ∧ Dp K (offS (rl :: S) H2) rv (intsD r) ∧ ∃ H3, H3 = upd (upd H2 l (.lst xs.tail)) rl (.lst (vs ++ [rv])) ∧ GoS (sd :: Ls) H H3 ∧ StE K C CS (rl :: S) H3 a ta la sd Ls T (cutK p L (k + 1)) kv ∧ H3 rl = some (.lst (vs ++ [rv])) ∧ DpAll K (offS (rl :: S) H3) (vs ++ [rv]) ((rs.take (k + 1)).map intsD) := by
    intro r nn t hLt hrk
    rw [hLt] at k3
    obtain ⟨b, rv, x1, x2, x3, x4⟩ := dps_tail k3
    have ak := st.pw (p.take k)
    have rk := st.rk (p.take k)
    rw [hLt] at ak rk
    have s3 := (st2.setL hq k1 x2 (rk_tail rk) (asc_tail ak)).mut (p := rl) (v := .lst (vs ++ [rv])) hrlm hrlS
    have gg : GoS (rl :: S) H2 (upd (upd H2 l (.lst xs.tail)) rl (.lst (vs ++ [rv]))) := (GoS.refl.upd (List.mem_cons_of_mem _ (st.sub l hlM))).upd hrlm
    refine ⟨b, rv, x1, x2, x3, x4, _, rfl, (g2.upd hlM).mutNew hrl, ?_, upd_same, ?_⟩
    · rw [cutK_succ p L k hk, hLt]
      exact s3
    · rw [List.take_add_one, hrk, Option.toList_some, List.map_append]
      exact dps_same gg.s (dps_snoc' hv2 x4)
  refine ite2 (fun hc => ?_) (fun hc => ?_)
  · have hul : u.len ≠ 0 := fun z => by
      rw [List.eq_nil_of_length_eq_zero (hkl.trans z)] at hc
      exact nomatch hc
    have hkp : k < p.length := by
      refine Nat.lt_of_le_of_ne hk fun z => ?_
      obtain ⟨w', z1, z2⟩ := d.lf
      rw [z, List.take_length, z1] at hu2
      rw [← Option.some.inj hu2] at hul
      exact hul z2
    obtain ⟨r, t, hLt, hrk⟩ := d.hd k p[k] (List.getElem?_eq_getElem hkp)
    obtain ⟨b, rv, x1, x2, x3, x4, H3, hH3, g3, st3, hr3, hv3⟩ := take1 r _ t hLt hrk
    refine ⟨_, fun _ _ z => z, ?_⟩
    have hxl : xs.length = xs.tail.length + 1 := by rw [x1]; rfl
    have hx0 : xs[0]? = some (.ref b) := by rw [x1]; rfl
    have hxe : xs.eraseIdx 0 = xs.tail := by cases xs <;> rfl
    refine ⟨_, rfl, a, CS, dx2, _, _, rfl, hob2, SC.cl, SC.nL, rfl, _, rfl, la, _, _, _, rfl, rfl, SqL.of st2.lst, (atI_nat (by rw [List.getElem?_map, k1]; rfl)), ?_⟩
    refine ⟨.inl ⟨rfl, _, SqL.of k2⟩, ?_⟩
    refine ⟨l, xs, 0, 0, .ref b, rfl, rfl, k2, by decide, by decide, (by rw [hxl]; exact seqIndex0 _), hx0, ?_⟩
    rw [hxe]
    have gA : GoS (rl :: S) H2 (upd H2 l (.lst xs.tail)) := GoS.refl.upd (List.mem_cons_of_mem _ (st.sub l hlM))
    refine ⟨b, _, rfl, same_sqt offS_same (same_sqt gA.s x3), rfl, ?_⟩
    refine ⟨_, _, rfl, _, _, rfl, rfl, ?_⟩
    have hrA : (upd H2 l (.lst xs.tail)) rl = some (.lst vs) := by rw [upd_ne nrl]; exact hr2
    refine ⟨_, rfl, .inl ⟨rfl, _, SqL.of hrA⟩, ?_⟩
    refine ⟨_, rfl, rl, vs, _, rfl, rfl, hrA, small1000 (by have := hht; omega), ?_⟩
    rw [← hH3]
    obtain ⟨dx3, hob3⟩ := st3.obj
    obtain ⟨dy', fv', LL', SS', y1, y2, y3, y4⟩ := st3.tree
    obtain ⟨w2, f2, u', b3, hu3, rfl, hb3⟩ := y2.node (k := 2) (by decide) hq
    rw [hu2] at hu3
    obtain rfl := Option.some.inj hu3
    have hpk := d.fork hkp hu2
    refine ⟨_, rfl, a, CS, dx3, _, _, rfl, hob3, SC.cl, SC.nT, rfl, ta, C, dy', _, _, rfl, y1.ob, TC.cl, TC.n2, stF_2 _ _, _, rfl, LL' 2, _, _, _, rfl, rfl, SqL.of (y1.ls 2 (by decide)), f2, ?_⟩
    refine ⟨_, rfl, b3, _, _, _, rfl, rfl, hb3, atI_nat (kidV_at hpk), ?_⟩
    refine ⟨p.length - (k + 1), by omega, k + 1, some rv, some (.int (p[k] : Nat)), _, ?_, rfl, by omega, g3, st3, hr3, hv3⟩
    rw [List.take_succ_eq_append_getElem hkp]
    rfl
  · have hul : u.len = 0 := by
      rw [← hkl]
      cases z : kidV T (p.take k) u with
      | nil => rfl
      | cons _ _ =>
        rw [z] at hc
        exact absurd rfl hc
    have hkp : p.take k = p := by
      have h5 := (sub_app T (p.take k) u hu2 (p.drop k)).1
      obtain ⟨w', z1, _⟩ := d.lf
      rw [List.take_append_drop, z1] at h5
      cases z : p.drop k with
      | nil =>
        rw [List.drop_eq_nil_iff] at z
        exact List.take_of_length_le z
      | cons j q =>
        rw [z] at h5
        obtain ⟨k', hk', _⟩ := sub_len h5.symm
        have := kid_lt hk'
        omega
    have hke : k = p.length := by
      have := congrArg List.length hkp
      rw [List.length_take] at this
      omega
    obtain ⟨r, t, hLt, hrk⟩ := d.la
    rw [← hke] at hrk
    have hLt' : L (p.take k) = (r, n) :: t := by rw [hkp]; exact hLt
    obtain ⟨b, rv, x1, x2, x3, x4, H3, hH3, g3, st3, hr3, hv3⟩ := take1 r n t hLt' hrk
    have hxl : xs.length = xs.tail.length + 1 := by rw [x1]; rfl
    have hx0 : xs[0]? = some (.ref b) := by rw [x1]; rfl
    have hxe : xs.eraseIdx 0 = xs.tail := by cases xs <;> rfl
    refine ⟨_, rfl, a, CS, dx2, _, _, rfl, hob2, SC.cl, SC.nL, rfl, _, rfl, la, _, _, _, rfl, rfl, SqL.of st2.lst, (atI_nat (by rw [List.getElem?_map, k1]; rfl)), ?_⟩
    refine ⟨.inl ⟨rfl, _, SqL.of k2⟩, ?_⟩
    refine ⟨l, xs, 0, 0, .ref b, rfl, rfl, k2, by decide, by decide, (by rw [hxl]; exact seqIndex0 _), hx0, ?_⟩
    rw [hxe]
    have gA : GoS (rl :: S) H2 (upd H2 l (.lst xs.tail)) := GoS.refl.upd (List.mem_cons_of_mem _ (st.sub l hlM))
    refine ⟨b, _, rfl, same_sqt offS_same (same_sqt gA.s x3), rfl, ?_⟩
    refine ⟨_, _, rfl, _, _, rfl, rfl, ?_⟩
    have hrA : (upd H2 l (.lst xs.tail)) rl = some (.lst vs) := by rw [upd_ne nrl]; exact hr2
    refine ⟨_, rfl, .inl ⟨rfl, _, SqL.of hrA⟩, ?_⟩
    refine ⟨_, rfl, rl, vs, _, rfl, rfl, hrA, small1000 (by have := hht; omega), ?_⟩
    rw [← hH3]
    obtain ⟨dx3, hob3⟩ := st3.obj
    have hin : n ∈ its (L p) := by rw [hLt]; exact List.mem_cons_self ..
    refine ⟨_, rfl, a, CS, dx3, _, _, rfl, hob3, SC.cl, SC.nS, rfl, sd, rfl, .inl ⟨kv, .inl st3.se⟩, _, rfl, kv, (Sum.inl n : Key), _, st3.se, rfl, seat.to n i p hi hin, ?_⟩
    have st4 := st3.setS (dropK kv (Sum.inl n : Key))
    have hsdS : sd ∈ S := st.sub sd (List.mem_cons_self ..)
    have nsd : rl ≠ sd := fun z => hrlS (by rw [z]; exact List.mem_cons_self ..)
    have g4 : GoS (sd :: Ls) H (upd H3 sd (.dK (dropK kv (Sum.inl n : Key)))) := g3.upd (List.mem_cons_self ..)
    have gB : GoS (rl :: S) H3 (upd H3 sd (.dK (dropK kv (Sum.inl n : Key)))) := GoS.refl.upd (List.mem_cons_of_mem _ hsdS)
    have hr4 : (upd H3 sd (.dK (dropK kv (Sum.inl n : Key)))) rl = some (.lst (vs ++ [rv])) := by rw [upd_ne nsd]; exact hr3
    have hv4 := dps_same gB.s hv3
    revert st4 g4 gB hr4 hv4
    generalize upd H3 sd (.dK (dropK kv (Sum.inl n : Key))) = H4
    intro st4 g4 gB hr4 hv4
    refine ⟨_, rfl, _, rfl, _, rfl, rl, _, rfl, .inl ⟨SqL.of hr4, fun tt htt => ⟨(by show 3 ≤ sizeLine; decide), fun v hv => ?_⟩⟩⟩
    have s5 : Same H4 (upd H4 tt (.tup (vs ++ [rv]))) := same_new htt
    have s6 : Same H4 (upd (upd H4 tt (.tup (vs ++ [rv]))) v (.tup [.int n, .int (i : Nat), .ref tt])) := s5.trans (same_new hv)
    have hl4 : (rs.take (k + 1)) = rs := List.take_of_length_le (by rw [d.len]; omega)
    rw [hl4] at hv4
    have httS : tt ∉ rl :: S := fun z => st4.al tt z htt
    have hvS : v ∉ rl :: S := fun z => st4.al v z (s5.free hv)
    have ntv : tt ≠ v := fun z => by
      rw [z, ← z, upd_same] at hv
      exact nomatch hv
    have fin := ((st4.same s6).shrink (S := S) (fun y hy => List.mem_cons_of_mem _ hy) st.sub)
    rw [hke, cutK_full] at fin
    refine q2 n p rs i d hi _ v (g4.trans (GoS.of s6)) fin (g4.free (s5.free hv)) ?_
    refine dp_same (offS_sub (S := S) (S' := rl :: S) fun y hy => List.mem_cons_of_mem _ hy) ?_
    have g6 : Same (offS (rl :: S) H4) (offS (rl :: S) (upd (upd H4 tt (.tup (vs ++ [rv]))) v (.tup [.int n, .int (i : Nat), .ref tt]))) := (GoS.of s6).s
    refine .tup (SqT.of (by rw [offS_ne hvS]; exact upd_same)) (.cons (.int _) (.cons (.int _) (.cons (.tup (SqT.of ?_) (dps_same g6 hv4)) .nil)))
    rw [offS_ne httS, upd_ne ntv]
    exact upd_same
end
end K26
set_option Elab.async false
set_option linter.all false
set_option maxRecDepth 100000
set_option maxHeartbeats 4000000
namespace L2
open PySem PySem.Spec PyProof.Rows
section
variable {X : Cx}
/-- xs[i] op= e: the read -/
theorem pg_getL : PGet X (rIxL X.K) := by
  intro pins s σ H x y v u Q I rx ry h
  obtain ⟨p, xs, i, z, rfl, rfl, hq, he, q⟩ := h
  cases rx
  obtain ⟨t, rfl⟩ := ry
  obtain ⟨its, r, pl, hz⟩ := I.list hq
  obtain ⟨j, h1, h2, h3, h4, h5⟩ := atI_get he
  obtain ⟨w, ew, rw'⟩ := r.get h2
  have hl := r.length
  have hn := line63
  have fin : EP X pins σ Q w s := ⟨z, H, I, rw', q⟩
  by_cases h0 : 0 ≤ i
  · have hj : i.toNat = j := by
      rw [seqIndex_of h0 h5] at h1
      exact Option.some.inj h1
    exact wpAny_getItem_list pl.isList h0 (by omega) (by rw [hj]; simpa using ew) fin
  · have hj : (i + (its.toArray.size : Int)).toNat = j := by
      rw [seqIndex_neg (by omega) h4] at h1
      rw [List.size_toArray, ← hl]
      exact Option.some.inj h1
    exact wpAny_getItem_list_neg pl.isList (by omega) (by rw [List.size_toArray] <;> omega) (by omega) (by rw [hj]; simpa using ew) fin
end
end L2
namespace K26
open PySem PySem.Spec PyProof.Rows L2 Dt
theorem mrg_at : ∀ (i : Nat) (cs : List Nat) (f : Nat → List Int) (j : Nat), Enough cs f → cs[i]? = some j → ∃ z, (mrg cs f)[i]? = some z ∧ (f j)[(cs.take i).count j]? = some z
  | _, [], _, _, _, h => by simp at h
  | 0, a :: cs, f, j, hn, h => by
    obtain rfl : a = j := by simpa using h
    obtain ⟨y, t, ey⟩ := hn.head
    refine ⟨y, ?_, ?_⟩
    · show ((f a).headD 0 :: mrg cs (dropAt f a))[0]? = _
      rw [ey]
      rfl
    · rw [ey]
      rfl
  | i + 1, a :: cs, f, j, hn, h => by
    obtain ⟨z, h1, h2⟩ := mrg_at i cs (dropAt f a) j hn.tail (by simpa using h)
    refine ⟨z, h1, ?_⟩
    rw [List.take_succ_cons]
    unfold dropAt at h2
    by_cases e : j = a
    · subst e
      rw [if_pos rfl] at h2
      rw [List.count_cons_self]
      rw [List.getElem?_tail] at h2
      exact h2
    · rw [if_neg e] at h2
      rw [List.count_cons_of_ne (Ne.symm e)]
      exact h2
/-- the lines of a standing, to read -/
structure RdS (K : PySem.W.Frag) (C : Addr) (H : Hp) (ta la : Addr) (Ls : List Addr) (T : Dt) (L : Lns) : Prop where
  tr : Tree K H C ta T
  ln : H la = some (.lst (Ls.map V.ref))
  li : ∀ q ∈ ad T, ∃ l xs, Ls[T.idx q]? = some l ∧ H l = some (.lst xs) ∧ DpAll K H xs ((L q).map enD)
theorem RdS.same {K : PySem.W.Frag} {C : Addr} {H H' : Hp} {ta la : Addr} {Ls : List Addr} {T : Dt} {L : Lns} (r : RdS K C H ta la Ls T L) (e : Same H H') : RdS K C H' ta la Ls T L :=
  ⟨r.tr.same e, e _ _ r.ln, fun q hq => by
    obtain ⟨l, xs, h1, h2, h3⟩ := r.li q hq
    exact ⟨l, xs, h1, e _ _ h2, dps_same e h3⟩⟩
theorem StE.rd {K : PySem.W.Frag} {C CS : Addr} {S : List Addr} {H : Hp} {a ta la sd : Addr} {Ls : List Addr} {T : Dt} {L : Lns} {kv : List (Key × V)} (s : StE K C CS S H a ta la sd Ls T L kv) : RdS K C H ta la Ls T L :=
  ⟨s.tree, s.lst, fun q hq => by
    obtain ⟨l, xs, h1, h2, h3⟩ := s.li q hq
    exact ⟨l, xs, h1, h2, dps_same offS_same h3⟩⟩
def at_ (q : Ad) (L : Lns) : Lns := fun r => L (q ++ r)
theorem at_nil (q : Ad) (L : Lns) : at_ q L [] = L q := by
  unfold at_
  rw [List.append_nil]
theorem Con.at {T u : Dt} {L : Lns} {q : Ad} (h : Con T L) (hq : sub T q = some u) : Con u (at_ q L) :=
  ⟨fun r w hr => h.it (q ++ r) w (by rw [(sub_app T q u hq r).1]; exact hr), fun r w j hr hj => by
    have := h.ct (q ++ r) w j (by rw [(sub_app T q u hq r).1]; exact hr) hj
    rw [List.append_assoc] at this
    exact this⟩
theorem sh_at (q : Ad) (L : Lns) (j : Nat) : sh j (at_ q L) = at_ (q ++ [j]) L := by
  funext r
  unfold sh at_
  rw [List.append_assoc]
  rfl
theorem dps_en {K : PySem.W.Frag} {H : Hp} {xs : List V} {l : List En} (h : DpAll K H xs (l.map enD)) {i : Nat} {v : V} (hv : xs[i]? = some v) : ∃ e b rv, l[i]? = some e ∧ v = .ref b ∧ SqT K H b [rv, .int e.2] ∧ Dp K H rv (intsD e.1) := by
  obtain ⟨d, h1, h2⟩ := dps_at h hv
  rw [List.getElem?_map] at h1
  obtain ⟨e, h3, rfl⟩ := Option.map_eq_some_iff.mp h1
  cases h2 with
  | @tup b ys _ hs ha =>
    cases ha with
    | cons g1 ha =>
      cases ha with
      | cons g2 ha =>
        cases ha
        cases g2
        exact ⟨e, b, _, h3, rfl, hs, g1⟩
theorem ix_tupK {X : Cx} {K : PySem.W.Frag} (hK : X.K = K) : IxR X (rIxT K) := by
  subst hK
  exact ix_tup
def countV (cs : List Nat) (m : Nat) : List V := (List.range m).map fun j => V.int (cs.count j : Nat)
theorem countV_at {cs : List Nat} {m j : Nat} (h : j < m) : (countV cs m)[j]? = some (V.int (cs.count j : Nat)) := by
  unfold countV
  rw [List.getElem?_map, List.getElem?_range h]
  rfl
theorem countV_len (cs : List Nat) (m : Nat) : (countV cs m).length = m := by
  unfold countV
  rw [List.length_map, List.length_range]
theorem countV_zero (m : Nat) : (List.replicate m [V.int 0]).flatten = countV [] m := by
  unfold countV
  induction m with
  | zero => rfl
  | succ m ih =>
    rw [List.replicate_succ', List.flatten_append, ih, List.range_succ, List.map_append]
    rfl
theorem countV_snoc {cs : List Nat} {m j : Nat} (h : j < m) : (countV cs m).set j (V.int ((cs.count j : Nat) + 1)) = countV (cs ++ [j]) m := by
  refine List.ext_getElem? fun i => ?_
  by_cases hi : i < m
  · rw [countV_at hi]
    by_cases e : j = i
    · subst e
      rw [List.getElem?_set_self (by rw [countV_len]; exact hi), List.count_append, List.count_singleton_self]
      rfl
    · rw [List.getElem?_set_ne e, countV_at hi, List.count_append, List.count_cons_of_ne (a := i) (b := j) e]
      rfl
  · rw [List.getElem?_eq_none (by rw [List.length_set, countV_len]; omega), List.getElem?_eq_none (by rw [countV_len]; omega)]
def spOrderAt (K : PySem.W.Frag) (C : Addr) (n : Nat) : Sp := fun vs H Q _ => ∃ (ta la : Addr) (Ls : List Addr) (T u : Dt) (L : Lns) (q : Ad), vs = [.ref ta, .ref la, .int (T.idx q : Nat)] ∧ RdS K C H ta la Ls T L ∧ Con T L ∧ sub T q = some u ∧ u.ht < n ∧ u.len ≤ 1000 ∧ (∀ q, (L q).length ≤ 100000) ∧
  ∀ H' p, Same H H' → H p = none → H' p = some (.lst ((ord u (at_ q L)).map V.int)) → Q (.ref p) H'
section
variable {P : Program} {w : World} {K : PySem.W.Frag} {mg : Str → Option Value} {base : Heap} {C CS U fG : Addr}
theorem ok_orderAt_step {n : Nat} (D : DefAt K mg "order_at" s_order_at ["tree", "lines", "node"]) (T0 : Txt K mg) (TC : TCl K mg C fG) (GO : CalX P w K mg base CX0 n "order_at" ["tree", "lines", "node"] (spOrderAt K C n)) : CalX P w K mg base CX0 (n + 1) "order_at" ["tree", "lines", "node"] (spOrderAt K C (n + 1)) := by
  refine D.ok sc_order_at (fun vs H Q E h => ?_) (fun f cdv A outer s H vs Q E hr h => ?_)
  · obtain ⟨ta, la, Ls, T, u, L, q, rfl, _⟩ := h
    rfl
  obtain ⟨ta, la, Ls, T, u, L, q, rfl, rd, con, hq, hht, hul, hL, qq⟩ := h
  refine ⟨_, (pss_cons (ps_set (i := 3) sc_order_at.nd rfl (.inl rfl) (pe_ix ix_list (pe_fld (pv 0) rfl) (pv 2) (fun _ _ => rfl))) 
    (pss_cons (ps_if (pt_not (pt_truth (pv 3) (by intro _; rfl))) 
      (pss_one (ps_ret (pe_lc (own := [("entry", 4)]) (g := gName 4) (tt := tYes) (by rfl) sc_order_at.nd (pi_list (pe_ix ix_list (pv 1) (pv 2) (fun _ _ => rfl))) (blkOk_by (own := [("entry", 4)]) (N := N_order_at) (sc := defScope s_order_at) (by decide +kernel)) (fun _ _ _ _ _ => pg_name (i := 4) sc_order_at.nd rfl (Or.inl rfl)) (fun _ _ _ _ _ => pts_nil) (fun _ _ _ _ _ => by exact (pe_ix (ix_tupK (K := K) (by exact rfl)) (pv 4) pe_int (fun _ _ => rfl)))))) pss_nil) 
    (pss_cons (ps_setLc (i := 6) (own := [("kid", 5)]) (g := gName 5) (tt := tYes) (by rfl) sc_order_at.nd rfl rfl (sw_true rfl rfl (by decide) (by decide)) (pi_tup (pv 3)) (blkOk_by (own := [("kid", 5)]) (N := N_order_at) (sc := defScope s_order_at) (by decide +kernel)) (fun _ _ _ _ _ => pg_name (i := 5) sc_order_at.nd rfl (Or.inl rfl)) (fun _ _ _ _ _ => pts_nil) (fun _ _ _ _ _ => by exact (pe_c0 GO hr (Nat.le_refl _) rfl (pa_cons (pv 0) (pa_cons (pv 1) (pa_cons (pv 5) pa_nil)))))) 
    (pss_cons (ps_set (i := 7) sc_order_at.nd rfl (.inl rfl) (pe_op op_rep (pe_lst (pa_cons pe_int pa_nil)) (pe_callB call_len_seq (by rfl) T0.len PySem.boot_len (pa_cons (pv 3) pa_nil)))) 
    (pss_cons (ps_set (i := 8) sc_order_at.nd rfl (.inl rfl) (pe_lst pa_nil)) 
    (pss_cons (ps_for PassesOwn.never rfl (pi_list (pe_ix ix_list (pv 1) (pv 2) (fun _ _ => rfl))) (pg_name (i := 4) sc_order_at.nd rfl (Or.inl rfl)) 
      (pss_cons (ps_set (i := 9) sc_order_at.nd rfl (.inl rfl) (pe_ix ix_tup (pv 4) pe_int (fun _ _ => rfl))) 
      (pss_cons (ps_expr (pe_bm PySem.F.plainAttrs_list PySem.F.slot_list_append PySem.F.type_list_append mt_append (pv 8) (pa_cons (pe_ix ix_list (pe_ix ix_list (pv 6) (pv 9) (fun _ _ => rfl)) (pe_ix ix_list (pv 7) (pv 9) (fun _ _ => rfl)) (fun _ _ => rfl)) pa_nil))) 
      (pss_one (ps_augS (pv 7) (pv 9) pg_getL pe_int ip_add set_list))))) 
    (pss_one (ps_ret (pv 8))))))))), ?_⟩
  have hqa := sub_ad hq
  obtain ⟨dx, fv, LL, SS, h1, h2, h3, h4⟩ := id rd.tr
  obtain ⟨v2, e2, u', b2, hu2, rfl, hb2⟩ := h2.node (k := 2) (by decide) hqa
  rw [hq] at hu2
  obtain rfl := Option.some.inj hu2
  have hkl : (kidV T q u).length = u.len := by unfold kidV; rw [List.length_map, List.length_range]
  obtain ⟨l, xs, k1, k2, k3⟩ := rd.li q hqa
  have hxl := dps_len k3
  rw [List.length_map] at hxl
  have hLq := hL q
  have hsl := sizeLine_eq
  have eL := at_nil q L
  refine ⟨_, rfl, ta, C, dx, _, _, rfl, h1.ob, TC.cl, TC.n2, stF_2 _ _, _, rfl, LL 2, _, _, _, rfl, rfl, SqL.of (h1.ls 2 (by decide)), e2, ?_⟩
  refine ⟨_, rfl, !(kidV T q u).isEmpty, .inr (.inl ⟨_, hb2, rfl⟩), ?_⟩
  by_cases hz : u.len = 0
  · have ek : kidV T q u = [] := List.eq_nil_of_length_eq_zero (hkl.trans hz)
    rw [ek]
    refine iteT ?_
    refine ⟨_, rfl, _, rfl, la, _, _, _, rfl, rfl, SqL.of rd.ln, (atI_nat (by rw [List.getElem?_map, k1]; rfl)), ?_⟩
    refine ⟨l, rfl, ⟨_, SqL.of k2⟩, fun Dl hDl => ?_⟩
    refine lc_list (K := K) (a := l) (xs := xs) (fun j H' => Same H H' ∧ H' Dl = some (.lst ((its ((L q).take j)).map V.int))) ⟨same_new hDl, upd_same⟩ (fun j H' _ hh => SqL.of (hh.1 _ _ k2)) ?_ ?_
    · rintro j x H' hj ⟨sm, hD⟩
      obtain ⟨e, b, rv, g1, rfl, g2, g3⟩ := dps_en k3 hj
      have hjl := (List.getElem?_eq_some_iff.mp hj).1
      refine ⟨rfl, ?_⟩
      refine ⟨_, rfl, b, _, _, _, rfl, rfl, same_sqt sm g2, (show atI [rv, V.int e.2] ((1 : Nat) : Int) = some (V.int e.2) from atI_nat rfl), ?_⟩
      refine ⟨_, hD, ?_, same_mut sm hDl, ?_⟩
      · unfold its
        rw [List.length_map, List.length_map, List.length_take]
        omega
      · rw [upd_same, List.take_add_one, g1]
        unfold its
        rw [List.map_append, List.map_append]
        rfl
    · rintro H' ⟨sm, hD⟩
      rw [hxl, List.take_length] at hD
      refine qq H' Dl sm hDl ?_
      rw [hD, ord_leaf hz, eL]
  have ek : (kidV T q u).isEmpty = false := by
    cases z : kidV T q u with
    | nil => rw [z] at hkl; exact absurd hkl.symm hz
    | cons _ _ => rfl
  rw [ek]
  refine iteF ?_
  have conu := con.at hq
  have hen := conu.enough hz
  rw [eL] at hen
  -- the orders of the children
  refine ⟨_, rfl, b2, rfl, ⟨_, hb2⟩, fun Dl hDl => ?_⟩
  refine lc_tup (K := K) (a := b2) (xs := kidV T q u) (fun j H' => Same H H' ∧ ∃ Os : List Addr, H' Dl = some (.lst (Os.map V.ref)) ∧ Os.length = j ∧ ∀ i t, Os[i]? = some t → t ≠ Dl ∧ H' t = some (.lst ((ordC u (at_ q L) i).map V.int))) ⟨same_new hDl, [], upd_same, rfl, fun i t z => nomatch z⟩ (fun j H' _ hh => same_sqt hh.1 hb2) ?_ ?_
  · rintro j x H' hj ⟨sm, Os, hD, hl, hO⟩
    have hjl := (List.getElem?_eq_some_iff.mp hj).1
    rw [hkl] at hjl
    rw [kidV_at hjl] at hj
    obtain rfl := Option.some.inj hj
    obtain ⟨k, hk⟩ := kid_of hjl
    have hsk : sub T (q ++ [j]) = some k := by
      rw [(sub_app T q u hq [j]).1, sub_one, hk]
    have hkh := ht_kid u j k hk
    refine ⟨rfl, _, rfl, _, rfl, _, rfl, ta, la, Ls, T, k, L, q ++ [j], rfl, rd.same sm, con, hsk, by omega, ?_, hL, fun H2 p s2 hp hp2 => ?_⟩
    · have := h4
      have z1 := idx_lt hsk
      have z2 := len_lt_nodes k
      omega
    have npD : p ≠ Dl := fun e => by
      rw [e, hD] at hp
      exact nomatch hp
    refine ⟨Os.map V.ref, s2 _ _ hD, small1000 (by rw [List.length_map]; omega), same_mut (sm.trans s2) hDl, Os ++ [p], by rw [upd_same, List.map_append]; rfl, by rw [List.length_append]; show Os.length + 1 = j + 1; omega, fun i t ht => ?_⟩
    have keep : ∀ t ys, H2 t = some (.lst ys) → t ≠ Dl → (upd H2 Dl (.lst (Os.map V.ref ++ [.ref p]))) t = some (.lst ys) := fun t ys h ne => by
      rw [upd_ne ne]
      exact h
    by_cases cc : i < Os.length
    · rw [List.getElem?_append_left cc] at ht
      obtain ⟨o1, o2⟩ := hO i t ht
      exact ⟨o1, keep t _ (s2 _ _ o2) o1⟩
    · have hi := (List.getElem?_eq_some_iff.mp ht).1
      rw [List.length_append] at hi
      have hi2 : i < Os.length + 1 := hi
      obtain rfl : i = Os.length := by omega
      rw [List.getElem?_append_right (Nat.le_refl _), Nat.sub_self] at ht
      obtain rfl := Option.some.inj ht
      refine ⟨npD, keep _ _ ?_ npD⟩
      rw [hl, ordC_at hk, sh_at]
      exact hp2
  rintro H1 ⟨s1, Os, hD, hOl, hO⟩
  rw [hkl] at hOl
  refine ⟨(by show 1 ≤ sizeLine; decide), fun l0 hl0 => ?_⟩
  have s2 : Same H1 (upd H1 l0 (.lst [.int 0])) := same_new hl0
  have h02 : (upd H1 l0 (.lst [.int 0])) l0 = some (.lst [.int 0]) := upd_same
  revert s2 h02
  generalize upd H1 l0 (.lst [.int 0]) = H2
  intro s2 h02
  refine ⟨_, rfl, b2, _, rfl, .inr (same_sqt (s1.trans s2) hb2), ?_⟩
  rw [hkl]
  refine ⟨l0, _, _, rfl, rfl, h02, by omega, by omega, (by show 1 * ((u.len : Nat) : Int).toNat ≤ _; omega), fun G hG => ?_⟩
  rw [Int.toNat_natCast, countV_zero]
  have s3 : Same H2 (upd H2 G (.lst (countV [] u.len))) := same_new hG
  have hG3 : (upd H2 G (.lst (countV [] u.len))) G = some (.lst (countV [] u.len)) := upd_same
  revert s3 hG3
  generalize upd H2 G (.lst (countV [] u.len)) = H3
  intro s3 hG3
  refine ⟨(by show 0 ≤ sizeLine; decide), fun R hR => ?_⟩
  have nGR : G ≠ R := fun z => by
    rw [z, hR] at hG3
    exact nomatch hG3
  have s4 : Same H3 (upd H3 R (.lst [])) := same_new hR
  have hG4 := s4 _ _ hG3
  have hR4 : (upd H3 R (.lst [])) R = some (.lst []) := upd_same
  revert s4 hG4 hR4
  generalize upd H3 R (.lst []) = H4
  intro s4 hG4 hR4
  have sG : H1 G = none := s2.free hG
  have sR : H1 R = none := s2.free (s3.free hR)
  have s14 := s2.trans (s3.trans s4)
  have sA := s1.trans s14
  refine ⟨_, rfl, _, rfl, la, _, _, _, rfl, rfl, SqL.of (sA _ _ rd.ln), (atI_nat (by rw [List.getElem?_map, k1]; rfl)), ?_⟩
  refine ⟨l, rfl, ⟨_, SqL.of (sA _ _ k2)⟩, ?_⟩
  refine for_list (K := K) (a := l) (xs := xs) (fun j σ H' => ∃ o4 o5 o9, σ = [some (.ref ta), some (.ref la), some (.int (T.idx q : Nat)), some (.ref b2), o4, o5, some (.ref Dl), some (.ref G), some (.ref R), o9] ∧ Same H1 H' ∧ H' G = some (.lst (countV ((chs (L q)).take j) u.len)) ∧ H' R = some (.lst (((mrg (chs (L q)) (ordC u (at_ q L))).take j).map V.int)))
    ⟨_, _, _, rfl, s14, by rw [List.take_zero]; exact hG4, by rw [List.take_zero]; exact hR4⟩ (fun j σ H' _ ⟨_, _, _, _, sm, _, _⟩ => SqL.of (sm _ _ (s1 _ _ k2))) ?_ ?_
  · rintro j x σ H' hj ⟨o4, o5, o9, rfl, sm, hGj, hRj⟩
    obtain ⟨e, b, rv, g1, rfl, g2, g3⟩ := dps_en k3 hj
    have hjl := (List.getElem?_eq_some_iff.mp hj).1
    have sB := s1.trans sm
    have hcj : (chs (L q))[j]? = some e.2.toNat := by
      unfold chs
      rw [List.getElem?_map, g1]
      rfl
    obtain ⟨c0, hc0, ec0⟩ := con.it q u hq hz e (List.mem_of_getElem? g1)
    have ec1 : e.2.toNat = c0 := by rw [ec0]; exact Int.toNat_natCast _
    rw [ec1] at hcj
    obtain ⟨z, z1, z2⟩ := mrg_at j _ _ c0 hen hcj
    obtain ⟨ot, hot⟩ : ∃ ot, Os[c0]? = some ot := ⟨_, List.getElem?_eq_getElem (by omega)⟩
    obtain ⟨o1, o2⟩ := hO c0 ot hot
    have hol := (List.getElem?_eq_some_iff.mp z2).1
    refine ⟨_, rfl, b, _, _, _, rfl, rfl, same_sqt sB g2, (show atI [rv, V.int e.2] ((1 : Nat) : Int) = some (V.int e.2) from atI_nat rfl), ?_⟩
    rw [ec0]
    refine ⟨_, rfl, ?_⟩
    refine ⟨.inl ⟨rfl, _, SqL.of hRj⟩, ?_⟩
    refine ⟨_, rfl, _, rfl, Dl, _, _, _, rfl, rfl, SqL.of (sm _ _ hD), (atI_nat (by rw [List.getElem?_map, hot]; rfl)), ?_⟩
    refine ⟨_, rfl, _, rfl, G, _, _, _, rfl, rfl, SqL.of hGj, atI_nat (countV_at hc0), ?_⟩
    refine ⟨ot, _, _, _, rfl, rfl, SqL.of (sm _ _ o2), (atI_nat (by rw [List.getElem?_map, z2]; rfl)), ?_⟩
    refine ⟨R, _, _, rfl, rfl, hRj, ?_, ?_⟩
    · rw [List.length_map, List.length_take]
      omega
    have hGR : (upd H' R (.lst (((mrg (chs (L q)) (ordC u (at_ q L))).take j).map V.int ++ [V.int z]))) G = some (.lst (countV ((chs (L q)).take j) u.len)) := by
      rw [upd_ne nGR]
      exact hGj
    have smR : Same H1 (upd H' R (.lst (((mrg (chs (L q)) (ordC u (at_ q L))).take j).map V.int ++ [V.int z]))) := same_mut sm sR
    have hRR : (upd H' R (.lst (((mrg (chs (L q)) (ordC u (at_ q L))).take j).map V.int ++ [V.int z]))) R = some (.lst (((mrg (chs (L q)) (ordC u (at_ q L))).take (j + 1)).map V.int)) := by
      rw [upd_same, List.take_add_one, z1, List.map_append]
      rfl
    revert hGR smR hRR
    generalize upd H' R (.lst (((mrg (chs (L q)) (ordC u (at_ q L))).take j).map V.int ++ [V.int z])) = H5
    intro hGR smR hRR
    refine ⟨_, rfl, _, rfl, G, _, _, _, rfl, rfl, SqL.of hGR, atI_nat (countV_at hc0), ?_⟩
    refine ⟨_, _, rfl, rfl, G, _, _, c0, rfl, rfl, hGR, ixN_nat (by rw [countV_len]; exact hc0), ?_⟩
    refine ⟨_, _, _, rfl, same_mut smR sG, ?_, ?_⟩
    · rw [upd_same, List.take_add_one, hcj]
      exact congrArg (fun l => some (HO.lst l)) (countV_snoc hc0)
    · rw [upd_ne (Ne.symm nGR)]
      exact hRR
  · rintro σ H' ⟨o4, o5, o9, rfl, sm, hGj, hRj⟩
    refine ⟨_, rfl, qq H' R (s1.trans sm) (s1.free sR) ?_⟩
    rw [hRj, ord_fork hz, eL, hxl, List.take_of_length_le (by rw [mrg_len]; unfold chs; rw [List.length_map]; exact Nat.le_refl _)]
end
end K26
set_option Elab.async false
set_option linter.all false
set_option maxRecDepth 100000
set_option maxHeartbeats 4000000
namespace K26
open PySem PySem.Spec PyProof.Rows L2 Dt
theorem kit_self {K : PySem.W.Frag} {U : Addr} : PySem.W.kitOne K (.ref U) (.ref U) = some true := by
  unfold PySem.W.kitOne
  rw [if_pos (by simp)]
/-- what isinstance asks of the class -/
structure IsS (K : PySem.W.Frag) (mg : Str → Option Value) (CS : Addr) : Prop where
  mg : mg "Standing" = some (.ref CS)
  no : ∀ t, (t = "int" ∨ t = "bool" ∨ t = "NoneType" ∨ t = "str" ∨ t = "tuple" ∨ t = "list") → PySem.W.kitOne K (.type t) (.ref CS) = some false
  f1 : PySem.W.findIn K (.ref CS) "__class__" = some (some (.builtin "object.__class__"))
  f2 : PySem.W.specialIn K (.builtin "object.__class__") "__get__" = some (some (.builtin "getset_descriptor.__get__"))
  f3 : PySem.W.takesIn K (.builtin "object.__class__") = some true
  f4 : PySem.W.mroIn K CS (.type "object") = some true
theorem mrg_all : ∀ (cs : List Nat) (f : Nat → List Int), (∀ j, cs.count j = (f j).length) → ∀ j, ∀ y ∈ f j, y ∈ mrg cs f
  | [], f, h, j, y, hy => by
    have := h j
    have e : f j = [] := List.eq_nil_of_length_eq_zero (by rw [← this]; rfl)
    rw [e] at hy
    exact nomatch hy
  | a :: cs, f, h, j, y, hy => by
    have ha := h a
    rw [List.count_cons_self] at ha
    obtain ⟨z, t, ez⟩ : ∃ z t, f a = z :: t := by
      cases e : f a with
      | nil =>
        rw [e] at ha
        exact absurd ha (by simp)
      | cons z t => exact ⟨z, t, rfl⟩
    show y ∈ (f a).headD 0 :: mrg cs (dropAt f a)
    have ih := mrg_all cs (dropAt f a) (fun i => by
      unfold dropAt
      by_cases e : i = a
      · subst e
        rw [if_pos rfl, List.length_tail]
        omega
      · rw [if_neg e, ← h i, List.count_cons_of_ne (Ne.symm e)]) j y
    by_cases e : j = a
    · subst e
      rw [ez] at hy
      rcases List.mem_cons.mp hy with rfl | hy
      · rw [ez]
        exact List.mem_cons_self ..
      · refine List.mem_cons_of_mem _ (ih ?_)
        unfold dropAt
        rw [if_pos rfl, ez]
        exact hy
    · refine List.mem_cons_of_mem _ (ih ?_)
      unfold dropAt
      rw [if_neg e]
      exact hy
theorem ordC_out {u : Dt} {L : Lns} {j : Nat} (h : ¬ j < u.len) : ordC u L j = [] := by
  unfold ordC
  rw [List.getD_eq_getElem?_getD, List.getElem?_eq_none (by rw [ordK_len]; omega)]
  rfl
theorem mem_ord : ∀ (p : Ad) (u w : Dt) (L : Lns), Con u L → sub u p = some w → w.len = 0 → ∀ n ∈ its (L p), n ∈ ord u L
  | [], u, w, L, cn, h, hw, n, hn => by
    rw [sub_nil] at h
    obtain rfl := Option.some.inj h
    rw [ord_leaf hw]
    exact hn
  | j :: p, u, w, L, cn, h, hw, n, hn => by
    obtain ⟨k, hk, hk2⟩ := sub_len h
    have hj := kid_lt hk
    have hl : u.len ≠ 0 := by omega
    have ih := mem_ord p k w (sh j L) (cn.kid hk) hk2 hw n hn
    rw [ord_fork hl]
    refine mrg_all _ _ (fun i => ?_) j n (by rw [ordC_at hk]; exact ih)
    by_cases hi : i < u.len
    · exact cn.exact hi
    · rw [ordC_out hi, List.count_eq_zero.mpr fun z => hi (cn.chs_lt hl i z)]
      rfl
theorem ht_le : ∀ {q : Ad} {T u : Dt}, sub T q = some u → u.ht ≤ T.ht
  | [], T, u, h => by
    rw [sub_nil] at h
    rw [Option.some.inj h]
    exact Nat.le_refl _
  | j :: q, T, u, h => by
    obtain ⟨k, hk, h2⟩ := sub_len h
    have h3 := ht_le h2
    have h4 := ht_kid T j k hk
    omega
def linesD (T : Dt) (L : Lns) : PyData := .tuple ((ad T).map fun q => .tuple ((L q).map enD))
def spOrder (K : PySem.W.Frag) (C CS : Addr) : Sp := fun vs H Q _ => ∃ (a ta la sd : Addr) (S Ls : List Addr) (T : Dt) (L : Lns) (kv : List (Key × V)), vs = [.ref a] ∧ StE K C CS S H a ta la sd Ls T L kv ∧ T.ht < 20 ∧ Con T L ∧ (∀ q, (L q).length ≤ 100000) ∧
  ∀ H' p, Same H H' → H p = none → H' p = some (.tup ((ord T L).map V.int)) → Q (.ref p) H'
def spAllL (K : PySem.W.Frag) (C CS : Addr) : Sp := fun vs H Q _ => ∃ (a ta la sd : Addr) (S Ls : List Addr) (T : Dt) (L : Lns) (kv : List (Key × V)), vs = [.ref a] ∧ StE K C CS S H a ta la sd Ls T L kv ∧
  ∀ H' p, Same H H' → H p = none → Dp K (offS S H') (.ref p) (linesD T L) → Q (.ref p) H'
/-- a standing, or a value of a plain kind -/
def StV (K : PySem.W.Frag) (CS : Addr) (H : Hp) (x : V) (g : Bool) : Prop := (g = true ∧ ∃ a dx fs, x = .ref a ∧ H a = some (.ins CS dx fs)) ∨ (g = false ∧ ∃ t, KindV K H x t)
def spNeedSt (K : PySem.W.Frag) (CS U : Addr) : Sp := fun vs H Q E => ∃ (x : V) (z : Str) (g : Bool), vs = [x, .str z] ∧ StV K CS H x g ∧ (g = true → Q .non H) ∧ (g = false → ∀ H', Same H H' → Out U z H' E)
def spOrderOf (K : PySem.W.Frag) (C CS U : Addr) : Sp := fun vs H Q E => ∃ (x y : V) (g : Bool), vs = [x, y] ∧ StV K CS H x g ∧ (g = false → ∀ H', Same H H' → Out U "standing" H' E) ∧
  (g = true → ∃ (a ta la sd : Addr) (S Ls : List Addr) (T : Dt) (L : Lns) (kv : List (Key × V)) (o : Option Int), x = .ref a ∧ StE K C CS S H a ta la sd Ls T L kv ∧ T.ht < 20 ∧ Con T L ∧ (∀ q, (L q).length ≤ 100000) ∧ NumV K H y o ∧
    (belowB (T.nodes : Nat) o = false → ∀ H', Same H H' → Out U "node" H' E) ∧
    (∀ q u, o = some (T.idx q : Nat) → sub T q = some u → ∀ H' p, Same H H' → H p = none → H' p = some (.tup ((ord u (at_ q L)).map V.int)) → Q (.ref p) H'))
def spPlaceOf (K : PySem.W.Frag) (C CS U : Addr) : Sp := fun vs H Q E => ∃ (x y z : V) (g : Bool), vs = [x, y, z] ∧ StV K CS H x g ∧ (g = false → ∀ H', Same H H' → Out U "standing" H' E) ∧
  (g = true → ∃ (a ta la sd : Addr) (S Ls : List Addr) (T : Dt) (L : Lns) (kv : List (Key × V)) (o on : Option Int), x = .ref a ∧ StE K C CS S H a ta la sd Ls T L kv ∧ T.ht < 20 ∧ Con T L ∧ Seat T L kv ∧ (∀ q, (L q).length ≤ 100000) ∧ NumV K H y o ∧ NumV K H z on ∧
    (belowB (T.nodes : Nat) o = false → ∀ H', Same H H' → Out U "node" H' E) ∧
    (∀ q u, o = some (T.idx q : Nat) → sub T q = some u → belowB packB on = false → ∀ H', Same H H' → Out U "number" H' E) ∧
    (∀ q u n, o = some (T.idx q : Nat) → sub T q = some u → on = some n → belowB packB on = true → n ∉ ord u (at_ q L) → ∀ H', Same H H' → Out U "number" H' E) ∧
    (∀ q u n (j : Nat), o = some (T.idx q : Nat) → sub T q = some u → on = some n → (ord u (at_ q L))[j]? = some n → (∀ i, i < j → (ord u (at_ q L))[i]? ≠ some n) → ∀ H', Same H H' → Q (.int (j : Nat)) H'))
def spWithin (K : PySem.W.Frag) (C : Addr) : Sp := fun vs H Q E => ∃ a T p q, vs = [.ref a, .int (T.idx q : Nat), .int (T.idx p : Nat)] ∧ Tree K H C a T ∧ p ∈ ad T ∧ q ∈ ad T ∧ Q (.bl (decide (p <+: q))) H
section
variable {P : Program} {w : World} {K : PySem.W.Frag} {mg : Str → Option Value} {base : Heap} {C CS U fG : Addr}
theorem ok_need_node (D : DefAt K mg "need_node" s_need_node ["tree", "node", "word"]) (T : Txt K mg) (TC : TCl K mg C fG) (GB : CalX P w K mg base CX0 3 "is_below" ["thing", "bound"] (spBelow K)) (GN : CalX P w K mg base (L2.CX P w) 3 "need" ["fits", "word"] (spNeed U)) :
    CalX P w K mg base (L2.CX P w) 4 "need_node" ["tree", "node", "word"] (spNeedNode K C U) := by
  refine D.okX sc_need_node (fun vs H Q E h => ?_) (fun f cdv A outer s H vs Q E hr h => ?_)
  · obtain ⟨a, x, o, t, z, rfl, _⟩ := h
    rfl
  obtain ⟨a, x, o, t, z, rfl, ⟨dx, fv, L, S, hT, hF, hV, h1⟩, hx, q1, q2⟩ := h
  refine ⟨_, pss_one (ps_expr (pe_cx GN hr (by decide) rfl (passes_call (takes_of rfl rfl rfl rfl) (fun _ _ _ _ h => h)) (pa_cons (pe_c0 GB hr (by decide) rfl (pa_cons (pv 1) (pa_cons (pe_callB call_len_seq (by rfl) T.len PySem.boot_len (pa_cons (pe_fld (pv 0) rfl) pa_nil)) pa_nil))) (pa_cons (pv 2) pa_nil)))), ?_⟩
  refine ⟨_, rfl, _, rfl, a, C, dx, _, _, rfl, hT.ob, TC.cl, TC.n2, stF_2 _ _, L 2, _, rfl, .inl (SqL.of (hT.ls 2 (by decide))), ?_⟩
  rw [hF.len (k := 2) (by decide)]
  exact ⟨x, o, _, rfl, hx, _, rfl, _, z, rfl, q1, q2⟩
theorem ok_within (D : DefAt K mg "is_within" s_is_within ["tree", "node", "top"]) (TC : TCl K mg C fG) : CalX P w K mg base CX0 1 "is_within" ["tree", "node", "top"] (spWithin K C) := by
  refine D.ok sc_is_within (fun vs H Q E h => ?_) (fun f cdv A outer s H vs Q E hr h => ?_)
  · obtain ⟨a, t, p, q, rfl, _⟩ := h
    rfl
  obtain ⟨a, t, p, q, rfl, ⟨dx, fv, L, S, hT, hF, hV, h1⟩, hp, hq, qq⟩ := h
  obtain ⟨u, hu⟩ := ad_sub hp
  obtain ⟨v7, e7, wd, e8, rfl⟩ := hF.node (k := 7) (by decide) hp
  obtain rfl := Option.some.inj (e8.symm.trans hu)
  refine ⟨_, pss_one (ps_ret (pe_chain op_le op_lt (pv 2) (pv 1) (pe_ix ix_list (pe_fld (pv 0) rfl) (pv 2) (fun _ _ => rfl)))), ?_⟩
  refine ⟨_, rfl, _, rfl, _, _, rfl, rfl, _, rfl, ?_⟩
  have hw := within hu hq
  refine ite2 (fun c => ?_) (fun c => ?_)
  · have c' : ((t.idx p : Nat) : Int) ≤ (t.idx q : Nat) := of_decide_eq_true c
    refine ⟨_, rfl, a, C, dx, _, _, rfl, hT.ob, TC.cl, TC.n7, stF_7 _ _, _, rfl, L 7, _, _, _, rfl, rfl, SqL.of (hT.ls 7 (by decide)), e7, _, _, rfl, rfl, ?_⟩
    have e : decide (((t.idx q : Nat) : Int) < ((t.idx p + wd.nodes : Nat) : Int)) = decide (p <+: q) := by
      by_cases z : p <+: q
      · rw [decide_eq_true z]
        have := hw.mpr z
        exact decide_eq_true (by omega)
      · rw [decide_eq_false z]
        exact decide_eq_false (fun y => z (hw.mp ⟨by omega, by omega⟩))
    show Q (.bl (decide (((t.idx q : Nat) : Int) < ((t.idx p + wd.nodes : Nat) : Int)))) H
    rw [e]
    exact qq
  · have c' : ¬ ((t.idx p : Nat) : Int) ≤ (t.idx q : Nat) := fun z => c (decide_eq_true z)
    rw [decide_eq_false (fun z => c' (by have := hw.mpr z; omega))] at qq
    exact qq
theorem ok_orderAt (D : DefAt K mg "order_at" s_order_at ["tree", "lines", "node"]) (T : Txt K mg) (TC : TCl K mg C fG) : ∀ n : Nat, CalX P w K mg base CX0 n "order_at" ["tree", "lines", "node"] (spOrderAt K C n)
  | 0 => by
    obtain ⟨f, fd, F, m, b⟩ := D.ex
    have no : ∀ vs H Q E, ¬ spOrderAt K C 0 vs H Q E := fun vs H Q E h => by
      obtain ⟨ta, la, Ls, T, u, L, q, _, _, _, _, h, _⟩ := h
      exact absurd h (Nat.not_lt_zero _)
    exact ⟨f, fd, ⟨fun vs H Q E h => absurd h (no vs H Q E), fun A outer s H args us vs Q E _ _ _ _ h => absurd h (no vs H Q E)⟩, m, F.kp, b, fun_lk F⟩
  | n + 1 => ok_orderAt_step D T TC (ok_orderAt D T TC n)
theorem ok_order {f : Addr} {fd : FuncData} (F : Fun K "order" "Standing.order" s_Standing_order f fd) (T0 : Txt K mg) (SC : StCl K CS) (GO : CalX P w K mg base CX0 20 "order_at" ["tree", "lines", "node"] (spOrderAt K C 20)) : FnOk P w K mg base CX0 21 f fd ["self"] (spOrder K C CS) := by
  refine F.ok sc_Standing_order (fun vs H Q E h => ?_) (fun cdv A outer s H vs Q E hr h => ?_)
  · obtain ⟨a, ta, la, sd, S, Ls, T, L, kv, rfl, _⟩ := h
    rfl
  obtain ⟨a, ta, la, sd, S, Ls, T, L, kv, rfl, st, hht, con, hL, q⟩ := h
  refine ⟨_, (pss_one (ps_ret (pe_callTy call_tuple_of (by rfl) T0.tuple PyProof.Rows.boot_tuple (pa_cons (pe_c0 GO hr (by decide) rfl (pa_cons (pe_fld (pv 0) rfl) (pa_cons (pe_fld (pv 0) rfl) (pa_cons pe_int pa_nil)))) pa_nil)))), ?_⟩
  obtain ⟨dx, hob⟩ := st.obj
  obtain ⟨_, _, _, _, _, _, _, h4⟩ := st.tree
  have hn := len_lt_nodes T
  refine ⟨_, rfl, a, CS, dx, _, _, rfl, hob, SC.cl, SC.nT, rfl, _, rfl, a, CS, dx, _, _, rfl, hob, SC.cl, SC.nL, rfl, ta, la, Ls, T, T, L, [], (by rw [idx_nil]; rfl), st.rd, con, sub_nil T, hht, by omega, hL, fun H' p s hp hp2 => ?_⟩
  refine ⟨p, _, rfl, .inl ⟨SqL.of hp2, fun l hl => q _ l (s.trans (same_new hl)) (s.free hl) upd_same⟩⟩
theorem ok_allL {f : Addr} {fd : FuncData} (F : Fun K "all_lines" "Standing.all_lines" s_Standing_all_lines f fd) (T0 : Txt K mg) (SC : StCl K CS) : FnOk P w K mg base CX0 1 f fd ["self"] (spAllL K C CS) := by
  refine F.ok sc_Standing_all_lines (fun vs H Q E h => ?_) (fun cdv A outer s H vs Q E hr h => ?_)
  · obtain ⟨a, ta, la, sd, S, Ls, T, L, kv, rfl, _⟩ := h
    rfl
  obtain ⟨a, ta, la, sd, S, Ls, T, L, kv, rfl, st, q⟩ := h
  refine ⟨_, pss_one (ps_ret (pe_callTy call_tuple_of (by rfl) T0.tuple PyProof.Rows.boot_tuple (pa_cons (pe_lc (own := [("line", 1)]) (g := gName 1) (tt := tYes) (by rfl) sc_Standing_all_lines.nd (pi_list (pe_fld (pv 0) rfl)) (blkOk_by (own := [("line", 1)]) (N := N_Standing_all_lines) (sc := defScope s_Standing_all_lines) (by decide +kernel)) (fun _ _ _ _ _ => pg_name (i := 1) sc_Standing_all_lines.nd rfl (Or.inl rfl)) (fun _ _ _ _ _ => pts_nil) (fun _ _ _ _ _ => by exact (pe_callTy (call_tuple_ofK (K := K) (by exact rfl)) (by rfl) T0.tuple PyProof.Rows.boot_tuple (pa_cons (pv 1) pa_nil)))) pa_nil))), ?_⟩
  obtain ⟨dx, hob⟩ := st.obj
  obtain ⟨_, _, _, _, _, _, _, h4⟩ := st.tree
  refine ⟨_, rfl, a, CS, dx, _, _, rfl, hob, SC.cl, SC.nL, rfl, la, rfl, ⟨_, SqL.of st.lst⟩, fun Dl hDl => ?_⟩
  have st0 := st.with (v := .lst []) hDl
  refine lc_list (K := K) (a := la) (xs := Ls.map V.ref) (fun j H' => Same H H' ∧ ∃ vs : List V, H' Dl = some (.lst vs) ∧ DpAll K (offS (Dl :: S) H') vs (((ad T).take j).map fun q => .tuple ((L q).map enD))) ⟨same_new hDl, [], upd_same, .nil⟩ (fun j H' _ hh => SqL.of (hh.1 _ _ st.lst)) ?_ ?_
  · rintro j x H' hj ⟨sm, vs, hD, hv⟩
    rw [List.getElem?_map] at hj
    obtain ⟨l, hlj, rfl⟩ := Option.map_eq_some_iff.mp hj
    have hjl := (List.getElem?_eq_some_iff.mp hlj).1
    rw [st.len, ← ad_len] at hjl
    obtain ⟨l', xs, g1, g2, g3⟩ := st.li _ (List.getElem_mem hjl)
    rw [idx_of (List.getElem?_eq_getElem hjl), hlj] at g1
    obtain rfl := Option.some.inj g1
    refine ⟨rfl, _, rfl, l, _, rfl, .inl ⟨SqL.of (sm _ _ g2), fun p hp => ?_⟩⟩
    have npD : p ≠ Dl := fun e => by
      rw [e, hD] at hp
      exact nomatch hp
    have hpS : p ∉ Dl :: S := fun z => by
      rcases List.mem_cons.mp z with z | z
      · exact npD z
      · exact same_al sm (st.al p z) hp
    have hvl := dps_len hv
    rw [List.length_map, List.length_take] at hvl
    have gA : GoS (Dl :: S) H' (upd (upd H' p (.tup xs)) Dl (.lst (vs ++ [.ref p]))) := (GoS.of (same_new hp)).upd (List.mem_cons_self ..)
    refine ⟨vs, (same_new hp) _ _ hD, small1000 (by have := ad_len T; omega), same_mut (sm.trans (same_new hp)) hDl, _, upd_same, ?_⟩
    rw [List.take_add_one, List.getElem?_eq_getElem hjl, List.map_append]
    refine dps_app (dps_same gA.s hv) (.cons (.tup (xs := xs) (SqT.of ?_) ?_) .nil)
    · rw [offS_ne hpS, upd_ne npD]
      exact upd_same
    · have z1 : Same (offS S H) (offS (Dl :: S) H') := offS_grow (N := [Dl]) sm fun y hy => by rw [List.mem_singleton.mp hy]; exact hDl
      exact dps_same gA.s (dps_same z1 g3)
  · rintro H2 ⟨sm, vs, hD, hv⟩
    refine ⟨Dl, _, rfl, .inl ⟨SqL.of hD, fun p hp => ?_⟩⟩
    have hpS : p ∉ S := fun z => same_al sm (st.al p z) hp
    have npD : p ≠ Dl := fun e => by
      rw [e, hD] at hp
      exact nomatch hp
    rw [List.length_map, st.len, ← ad_len, List.take_length] at hv
    refine q _ p (sm.trans (same_new hp)) (sm.free hp) (.tup (SqT.of (by rw [offS_ne hpS]; exact upd_same)) ?_)
    exact dps_same ((GoS.of (S := S) (same_new hp)).s) (dps_same (offS_sub fun y hy => List.mem_cons_of_mem _ hy) hv)
theorem ok_needSt (D : DefAt K mg "need_standing" s_need_standing ["standing", "word"]) (T0 : Txt K mg) (SC : StCl K CS) (IS : IsS K mg CS) (GN : CalX P w K mg base (L2.CX P w) 3 "need" ["fits", "word"] (spNeed U)) : CalX P w K mg base (L2.CX P w) 4 "need_standing" ["standing", "word"] (spNeedSt K CS U) := by
  refine D.okX sc_need_standing (fun vs H Q E h => ?_) (fun f cdv A outer s H vs Q E hr h => ?_)
  · obtain ⟨x, z, g, rfl, _⟩ := h
    rfl
  obtain ⟨x, z, g, rfl, hx, q1, q2⟩ := h
  refine ⟨_, (pss_one (ps_expr (pe_cx GN hr (by decide) rfl (passes_call (takes_of rfl rfl rfl rfl) (fun _ _ _ _ h => h)) (pa_cons (pe_callB call_isi (by rfl) T0.isinstance boot_isinstance (pa_cons (pv 0) (pa_cons (pe_glob (v := .ref CS) (by rfl) IS.mg rfl) pa_nil))) (pa_cons (pv 1) pa_nil))))), ?_⟩
  rcases hx with ⟨rfl, a, dx, fs, rfl, ha⟩ | ⟨rfl, t, hk, ht⟩
  · exact ⟨_, rfl, _, _, _, _, true, rfl, .own CS, .base (.ins ha SC.cl IS.f1 IS.f2 IS.f3 IS.f4), kit_self, _, rfl, true, z, rfl, fun _ => q1 rfl, fun e => nomatch e⟩
  · exact ⟨_, rfl, _, _, _, _, false, rfl, .own CS, hk, IS.no t ht, _, rfl, false, z, rfl, (fun e => nomatch e), fun _ d hd => q2 rfl H (fun _ _ y => y) d hd⟩
theorem ok_orderOf (D : DefAt K mg "order_of" s_order_of ["standing", "node"]) (T0 : Txt K mg) (SC : StCl K CS) (GS : CalX P w K mg base (L2.CX P w) 4 "need_standing" ["standing", "word"] (spNeedSt K CS U)) (GNo : CalX P w K mg base (L2.CX P w) 4 "need_node" ["tree", "node", "word"] (spNeedNode K C U)) (GO : CalX P w K mg base CX0 20 "order_at" ["tree", "lines", "node"] (spOrderAt K C 20)) : CalX P w K mg base (L2.CX P w) 21 "order_of" ["standing", "node"] (spOrderOf K C CS U) := by
  refine D.okX sc_order_of (fun vs H Q E h => ?_) (fun f cdv A outer s H vs Q E hr h => ?_)
  · obtain ⟨x, y, g, rfl, _⟩ := h
    rfl
  obtain ⟨x, y, g, rfl, hx, q1, q2⟩ := h
  refine ⟨_, (pss_cons (ps_expr (pe_cx GS hr (by decide) rfl (passes_call (takes_of rfl rfl rfl rfl) (fun _ _ _ _ h => h)) (pa_cons (pv 0) (pa_cons pe_str pa_nil)))) 
    (pss_cons (ps_expr (pe_cx GNo hr (by decide) rfl (passes_call (takes_of rfl rfl rfl rfl) (fun _ _ _ _ h => h)) (pa_cons (pe_fld (pv 0) rfl) (pa_cons (pv 1) (pa_cons pe_str pa_nil))))) 
    (pss_one (ps_ret (pe_callTy call_tuple_of (by rfl) T0.tuple PyProof.Rows.boot_tuple (pa_cons (pe_c0 GO hr (by decide) rfl (pa_cons (pe_fld (pv 0) rfl) (pa_cons (pe_fld (pv 0) rfl) (pa_cons (pv 1) pa_nil)))) pa_nil)))))), ?_⟩
  refine ⟨_, rfl, x, "standing", g, rfl, hx, fun g1 => ?_, fun g1 => q1 g1⟩
  obtain ⟨a, ta, la, sd, S, Ls, T, L, kv, o, rfl, st, hht, con, hL, hy, q3, q4⟩ := q2 g1
  obtain ⟨dx, hob⟩ := st.obj
  obtain ⟨_, _, _, _, _, _, _, h4⟩ := st.tree
  refine ⟨_, rfl, a, CS, dx, _, _, rfl, hob, SC.cl, SC.nT, rfl, _, rfl, ta, y, o, T, "node", rfl, st.tree, hy, fun hB => ?_, fun hB => q3 hB H (fun _ _ z => z)⟩
  obtain ⟨q, hq, rfl⟩ := below_ad hB
  obtain rfl : y = .int (T.idx q : Nat) := hy
  obtain ⟨u, hu⟩ := ad_sub hq
  have hn := len_lt_nodes u
  have hi := idx_lt hu
  have hh : u.ht ≤ T.ht := ht_le hu
  refine ⟨_, rfl, a, CS, dx, _, _, rfl, hob, SC.cl, SC.nT, rfl, _, rfl, a, CS, dx, _, _, rfl, hob, SC.cl, SC.nL, rfl, _, rfl, ta, la, Ls, T, u, L, q, rfl, st.rd, con, hu, by omega, by omega, hL, fun H' p s hp hp2 => ?_⟩
  refine ⟨p, _, rfl, .inl ⟨SqL.of hp2, fun l hl => q4 q u rfl hu _ l (s.trans (same_new hl)) (s.free hl) upd_same⟩⟩
end
end K26
set_option Elab.async false
set_option linter.all false
set_option maxRecDepth 100000
set_option maxHeartbeats 8000000
namespace K26
open PySem PySem.Spec PyProof.Rows L2 Dt
theorem Tree.off {K : PySem.W.Frag} {H : Hp} {C ta a CS dx : Addr} {fs : List (Str × V)} {T : Dt} (t : Tree K H C ta T) (ha : H a = some (.ins CS dx fs)) (ne : a ≠ ta) : Tree K (offS [a] H) C ta T := by
  obtain ⟨dx', fv, L, S, h1, h2, h3, h4⟩ := t
  have kt : KeepT H (offS [a] H) := fun y ys => ⟨fun h => by
    rw [offS_ne]
    · exact h
    · intro e
      rw [List.mem_singleton.mp e, ha] at h
      exact HO.noConfusion (Option.some.inj h), fun o h => by
    rw [offS_ne]
    · exact h
    · intro e
      rw [List.mem_singleton.mp e, ha] at h
      exact HO.noConfusion (Option.some.inj h)⟩
  refine ⟨dx', fv, L, S, ⟨?_, fun i hi => ?_, h1.inj⟩, fun i hi => Paired.mono (fun v q c => Cell.keep kt i v q c) (h2 i hi), h3.keep kt, h4⟩
  · rw [offS_ne (fun e => ne (List.mem_singleton.mp e).symm)]
    exact h1.ob
  · have := h1.ls i hi
    rw [offS_ne]
    · exact this
    · intro e
      rw [List.mem_singleton.mp e, ha] at this
      exact HO.noConfusion (Option.some.inj this)
theorem TN.off {K : PySem.W.Frag} {H0 H : Hp} {C ta a CS dx : Addr} {fs : List (Str × V)} {T : Dt} (t : TN K H0 H C ta T) (ha : H a = some (.ins CS dx fs)) (ne : a ≠ ta) : TN K H0 (offS [a] H) C ta T := by
  obtain ⟨dx', fv, L, S, h1, h2, h3, h4, h5⟩ := t
  have kt : KeepT H (offS [a] H) := fun y ys => ⟨fun h => by
    rw [offS_ne]
    · exact h
    · intro e
      rw [List.mem_singleton.mp e, ha] at h
      exact HO.noConfusion (Option.some.inj h), fun o h => by
    rw [offS_ne]
    · exact h
    · intro e
      rw [List.mem_singleton.mp e, ha] at h
      exact HO.noConfusion (Option.some.inj h)⟩
  refine ⟨dx', fv, L, S, ⟨?_, fun i hi => ?_, h1.inj⟩, fun i hi => Paired.mono (fun v q c => Cell.keep kt i v q c) (h2 i hi), h3.keep kt, h4, h5⟩
  · rw [offS_ne (fun e => ne (List.mem_singleton.mp e).symm)]
    exact h1.ob
  · have := h1.ls i hi
    rw [offS_ne]
    · exact this
    · intro e
      rw [List.mem_singleton.mp e, ha] at this
      exact HO.noConfusion (Option.some.inj this)
/-! ### Standing(form) -/
def spMade (K : PySem.W.Frag) (C CS U : Addr) : Sp := fun vs H Q E => ∃ (a dx : Addr) (v : V) (t : Dt), vs = [.ref a, v] ∧ H a = some (.ins CS dx []) ∧ DtV K H v t ∧ t.size ≤ 100000 ∧
  (t.good 1 = true → t.ht < 20 ∧ t.nodes ≤ 1000 ∧ ∀ H' ta la sd Ls, StE K C CS (sd :: Ls) H' a ta la sd Ls t (fun _ => []) [] → TN K H (offS (sd :: Ls) H') C ta t ∧ H la = none → (∀ y o, H y = some o → y ≠ a → H' y = some o) → (∀ y ∈ sd :: Ls, H y = none) → Q .non H') ∧
  (t.good 1 = false → ∀ H', Same H H' → Out U "form" H' E)
section
variable {P : Program} {w : World} {K : PySem.W.Frag} {mg : Str → Option Value} {base : Heap}
theorem ok_made {C CS U f fG : Addr} {fd : FuncData} (F : Fun K "__init__" "Standing.__init__" s_Standing_init f fd) (SC : StCl K CS) (TC : TCl K mg C fG)
    (GShapeTree : CalX P w K mg base (L2.CX P w) 23 "shape_tree" ["form", "word"] (spShapeTree K C U)) : FnOk P w K mg base (L2.CX P w) 24 f fd ["self", "form"] (spMade K C CS U) := by
  refine F.okX sc_Standing_init (fun vs H Q E h => ?_) (fun cdv A outer s H vs Q E hr h => ?_)
  · obtain ⟨a, dx, v, t, rfl, _⟩ := h
    rfl
  obtain ⟨a, dx, v, t, rfl, ho, hv, hz, q1, q2⟩ := h
  refine ⟨_, pss_cons (ps_fld (pv 0) (pe_cx GShapeTree hr (by decide) rfl (passes_call (takes_of rfl rfl rfl rfl) (fun _ _ _ _ h => h)) (pa_cons (pv 1) (pa_cons pe_str pa_nil))) rfl)
    (pss_cons (ps_fld (pv 0) (pe_lc (own := [("_", 2)]) (g := gName 2) (tt := tYes) (by rfl) sc_Standing_init.nd (pi_list (pe_fld (pe_fld (pv 0) rfl) rfl)) (blkOk_by (own := [("_", 2)]) (N := N_Standing_init) (sc := defScope s_Standing_init) (by decide +kernel)) (fun _ _ _ _ _ => pg_name (i := 2) sc_Standing_init.nd rfl (Or.inl rfl)) (fun _ _ _ _ _ => pts_nil) (fun _ _ _ _ _ => by exact (pe_lst pa_nil))) rfl)
    (pss_one (ps_fld (pv 0) pe_dnewK rfl))), ?_⟩
  refine ⟨_, rfl, v, t, "form", rfl, hv, hz, fun g => ?_, fun g H' s => q2 g H' s⟩
  obtain ⟨g1, g2, k⟩ := q1 g
  refine ⟨g1, g2, fun ta H1 _ s1 hTN hta hTr => ?_⟩
  have ho1 := s1 _ _ ho
  have nta : a ≠ ta := fun e => by
    rw [e, hta] at ho
    exact nomatch ho
  refine ⟨_, rfl, a, CS, dx, [], rfl, ho1, SC.cl, SC.nT, (by show 0 < 1000; decide), ?_⟩
  have TO := hTr.off ho1 nta
  have TNO := hTN.off ho1 nta
  have ob2 : (upd H1 a (.ins CS dx (putF "tree" (.ref ta) []))) a = some (.ins CS dx (st1 ta)) := upd_same
  have T2 := hTr.put CS dx [] ho1 nta (putF "tree" (.ref ta) [])
  have kq2 : ∀ y o, H1 y = some o → y ≠ a → (upd H1 a (.ins CS dx (putF "tree" (.ref ta) []))) y = some o := fun y o h n => by
    rw [upd_ne n]
    exact h
  have kp2 : ∀ y o, H y = some o → y ≠ a → (upd H1 a (.ins CS dx (putF "tree" (.ref ta) []))) y = some o := fun y o h n => by
    rw [upd_ne n]
    exact s1 _ _ h
  revert T2 ob2 kq2 kp2
  generalize upd H1 a (.ins CS dx (putF "tree" (.ref ta) [])) = H2
  intro ob2 T2 kq2 kp2
  have T2' := T2
  obtain ⟨dx', fv, L, S, h1, h2, h3, h4⟩ := T2'
  have hlen : (S 2).length = t.nodes := by
    rw [Paired.len (h2 2 (by decide))]
    exact ad_len t
  refine ⟨_, rfl, a, CS, dx, _, _, rfl, ob2, SC.cl, SC.nT, rfl, ta, C, dx', _, _, rfl, h1.ob, TC.cl, TC.n2, stF_2 _ _, L 2, rfl, ⟨_, SqL.of (h1.ls 2 (by decide))⟩, fun Dl hDl => ?_⟩
  refine lc_list (K := K) (a := L 2) (xs := S 2) (fun j H' => Same H2 H' ∧ ∃ Ls : List Addr, H' Dl = some (.lst (Ls.map V.ref)) ∧ Ls.length = j ∧ (∀ l ∈ Ls, H' l = some (.lst []) ∧ H2 l = none) ∧ (Dl :: Ls).Nodup) ⟨same_new hDl, [], upd_same, rfl, (fun _ z => nomatch z), by simp⟩ (fun j H' _ hh => SqL.of (hh.1 _ _ (h1.ls 2 (by decide)))) ?_ ?_
  · rintro j x H' hj ⟨sm, Ls, hD, hl, hls, hnd⟩
    have hjl := (List.getElem?_eq_some_iff.mp hj).1
    refine ⟨rfl, (by show 0 ≤ sizeLine; decide), fun p hp => ?_⟩
    have npD : p ≠ Dl := fun e => by
      rw [e, hD] at hp
      exact nomatch hp
    have npL : p ∉ Ls := fun z => by
      rw [(hls p z).1] at hp
      exact nomatch hp
    obtain ⟨nd1, nd2⟩ := List.nodup_cons.mp hnd
    refine ⟨Ls.map V.ref, (same_new hp) _ _ hD, small1000 (by rw [List.length_map]; omega), same_mut (sm.trans (same_new hp)) hDl, Ls ++ [p], by rw [upd_same, List.map_append]; rfl, by rw [List.length_append]; show Ls.length + 1 = j + 1; omega, fun l hl2 => ?_, ?_⟩
    · rcases List.mem_append.mp hl2 with hl2 | hl2
      · obtain ⟨e1, e2⟩ := hls l hl2
        refine ⟨?_, e2⟩
        rw [upd_ne (fun e => nd1 (by rw [← e]; exact hl2))]
        exact (same_new hp) _ _ e1
      · obtain rfl := List.mem_singleton.mp hl2
        refine ⟨?_, sm.free hp⟩
        rw [upd_ne npD]
        exact upd_same
    · refine List.nodup_cons.mpr ⟨fun z => ?_, List.nodup_append.mpr ⟨nd2, by simp, fun x hx y hy e => ?_⟩⟩
      · rcases List.mem_append.mp z with z | z
        · exact nd1 z
        · exact npD (List.mem_singleton.mp z).symm
      · rw [List.mem_singleton.mp hy] at e
        exact npL (e ▸ hx)
  rintro H3 ⟨sm, Ls, hD, hl, hls, hnd⟩
  have ob3 := sm _ _ ob2
  have nDa : Dl ≠ a := fun e => by
    rw [e, ob2] at hDl
    exact nomatch hDl
  refine ⟨_, rfl, a, CS, dx, _, rfl, ob3, SC.cl, SC.nL, (by show 1 < 1000; decide), ?_⟩
  have e4 : putF "lines" (.ref Dl) (st1 ta) = (st2 ta Dl) := putF_new (show ∀ g ∈ (["tree"] : List Str), ¬ g = "lines" by decide +kernel)
  rw [e4]
  have ob4 : (upd H3 a (.ins CS dx (st2 ta Dl))) a = some (.ins CS dx (st2 ta Dl)) := upd_same
  have hD4 := lst_upd (fs' := (st2 ta Dl)) ob3 hD
  have hls4 : ∀ l ∈ Ls, (upd H3 a (.ins CS dx (st2 ta Dl))) l = some (.lst []) := fun l h => lst_upd ob3 (hls l h).1
  have kq4 : ∀ y o, H2 y = some o → y ≠ a → (upd H3 a (.ins CS dx (st2 ta Dl))) y = some o := fun y o h n => by
    rw [upd_ne n]
    exact sm _ _ h
  have kp4 : ∀ y o, H y = some o → y ≠ a → (upd H3 a (.ins CS dx (st2 ta Dl))) y = some o := fun y o h n => by
    rw [upd_ne n]
    exact sm _ _ (kp2 y o h n)
  revert ob4 hD4 hls4 kq4 kp4
  generalize upd H3 a (.ins CS dx (st2 ta Dl)) = H4
  intro ob4 hD4 hls4 kq4 kp4
  refine fun sd hsd => ?_
  have s5 := same_new (o := .dK []) hsd
  have ob5 := s5 _ _ ob4
  refine ⟨_, rfl, a, CS, dx, _, rfl, ob5, SC.cl, SC.nS, (by show 2 < 1000; decide), ?_⟩
  have e6 : putF "seats" (.ref sd) (st2 ta Dl) = stS ta Dl sd := putF_new (show ∀ g ∈ (["tree", "lines"] : List Str), ¬ g = "seats" by decide +kernel)
  rw [e6]
  have nsa : sd ≠ a := fun e => by
    rw [e, ob4] at hsd
    exact nomatch hsd
  have free : ∀ l, H2 l = none → l ≠ a → H l = none := fun l h n => by
    cases e : H l with
    | none => rfl
    | some o =>
      rw [kp2 l o e n] at h
      exact nomatch h
  have fs2 : ∀ l, H4 l = none → l ≠ a → H2 l = none := fun l h n => by
    cases e : H2 l with
    | none => rfl
    | some o =>
      rw [kq4 l o e n] at h
      exact nomatch h
  have laD : ∀ l ∈ Ls, l ≠ a := fun l h e => by
    have := (hls l h).2
    rw [e, ob2] at this
    exact nomatch this
  obtain ⟨nd1, nd2⟩ := List.nodup_cons.mp hnd
  have nsL : sd ∉ Ls := fun z => by
    rw [hls4 sd z] at hsd
    exact nomatch hsd
  have nsD : Dl ≠ sd := fun z => by
    rw [← z, hD4] at hsd
    exact nomatch hsd
  have ndS : Dl ∉ sd :: Ls := fun z => by
    rcases List.mem_cons.mp z with z | z
    · exact nsD z
    · exact nd1 z
  have naS : a ∉ sd :: Ls := fun z => by
    rcases List.mem_cons.mp z with z | z
    · exact nsa z.symm
    · exact laD a z rfl
  have hfree : ∀ y ∈ sd :: Ls, H1 y = none := fun y hy => by
    have h2 : H2 y = none := by
      rcases List.mem_cons.mp hy with e | hy
      · rw [e]
        exact fs2 sd hsd nsa
      · exact (hls y hy).2
    cases e : H1 y with
    | none => rfl
    | some o =>
      rw [kq2 y o e (fun z => naS (by rw [← z]; exact hy))] at h2
      exact nomatch h2
  have fin : Same (offS [a] H1) (offS (sd :: Ls) (upd (upd H4 sd (.dK [])) a (.ins CS dx (stS ta Dl sd)))) := fun y o h => by
    obtain ⟨n1, h1'⟩ := offS_some h
    have n1' : y ≠ a := fun z => n1 (List.mem_singleton.mpr z)
    rw [offS_ne (fun z => by rw [hfree y z] at h1'; exact nomatch h1'), upd_ne n1']
    exact s5 _ _ (kq4 y o (kq2 y o h1' n1') n1')
  have hlsF : ∀ l ∈ Ls, (upd (upd H4 sd (.dK [])) a (.ins CS dx (stS ta Dl sd))) l = some (.lst []) := fun l h => lst_upd ob5 (s5 _ _ (hls4 l h))
  have hsdF : (upd (upd H4 sd (.dK [])) a (.ins CS dx (stS ta Dl sd))) sd = some (.dK []) := by
    rw [upd_ne nsa]
    exact upd_same
  refine k _ ta Dl sd Ls ⟨fun y hy => hy, fun y hy => ?_, List.nodup_cons.mpr ⟨nsL, nd2⟩, ⟨dx, by rw [offS_ne naS]; exact upd_same⟩, TO.same fin, (by rw [offS_ne ndS]; exact lst_upd ob5 (s5 _ _ hD4)), by rw [hl, hlen], fun q hq => ?_, hsdF, (fun q e z => nomatch z), (fun q => List.Pairwise.nil)⟩ ⟨TNO.same fin, free Dl hDl nDa⟩ (fun y o h n => ?_) (fun y hy => ?_)
  · rcases List.mem_cons.mp hy with e | hy
    · rw [e, hsdF]
      exact fun z => nomatch z
    · rw [hlsF y hy]
      exact fun z => nomatch z
  · obtain ⟨u, hu⟩ := ad_sub hq
    have hi := idx_lt hu
    have hi2 := u.nodes_pos
    have hj : t.idx q < Ls.length := by rw [hl, hlen]; omega
    exact ⟨_, [], List.getElem?_eq_getElem hj, hlsF _ (List.getElem_mem hj), .nil⟩
  · rw [upd_ne n]
    exact s5 _ _ (kp4 y o h n)
  · cases e : H y with
    | none => rfl
    | some o =>
      have := hfree y hy
      rw [s1 y o e] at this
      exact nomatch this
end
end K26
set_option Elab.async false
set_option linter.all false
set_option maxRecDepth 100000
set_option maxHeartbeats 8000000
namespace L2
open PySem PySem.Spec PyProof.Rows
/-- a loop over enumerate(list) -/
theorem for_enumL {K : PySem.W.Frag} {a : Addr} {xs : List V} {g : TG} {tb : TS} {D : Ends} {σ : L2.St} {H : Hp} (Pv : Nat → L2.St → Hp → Prop) (h0 : Pv 0 σ H) (hq : ∀ i σ H, Pv i σ H → SqL K H a xs)
    (hs : ∀ (i : Nat) (x : V) (T : Addr) (σ : L2.St) (H : Hp), xs[i]? = some x → Pv i σ H → H T = none → g (.ref T) σ (upd H T (.tup [.int (i : Nat), x])) fun σ2 H2 => tb { D with nx := Pv (i + 1), ct := Pv (i + 1), bk := D.nx } σ2 H2) (hd : ∀ σ H, Pv xs.length σ H → D.nx σ H) :
    ∃ W : Nat → Nat → L2.St → Hp → Prop, (∃ m, W 0 m σ H) ∧ ∀ i m σ H, W i m σ H →
      ((Ite K a).stop i H ∧ D.nx σ H) ∨ ((Ite K a).go i H ∧ ∃ N : L2.St → Hp → Prop, (∀ σ' H', N σ' H' → ∃ m', m' < m ∧ W (i + 1) m' σ' H') ∧ ∀ v H', (Ite K a).yld i H v H' → g v σ H' fun σ2 H2 => tb { D with nx := N, ct := N, bk := D.nx } σ2 H2) := by
  refine ⟨fun i m σ H => m = xs.length - i ∧ i ≤ xs.length ∧ Pv i σ H, ⟨xs.length, rfl, Nat.zero_le _, h0⟩, ?_⟩
  rintro i m σ H ⟨rfl, hi, p⟩
  have qx := hq i σ H p
  by_cases hlt : i < xs.length
  · have hx : xs[i]? = some xs[i] := List.getElem?_eq_getElem hlt
    refine .inr ⟨⟨xs, _, qx, hx⟩, Pv (i + 1), fun σ' H' p' => ⟨xs.length - (i + 1), by omega, rfl, hlt, p'⟩, fun v H' y => ?_⟩
    obtain ⟨T, x', rfl, hT, rfl, f1⟩ := y
    exact hs i x' T σ H (f1 xs qx) p hT
  · have e : i = xs.length := by omega
    subst e
    exact .inl ⟨⟨xs, qx, Nat.le_refl _⟩, hd σ H p⟩
end L2
namespace K26
open PySem PySem.Spec PyProof.Rows L2 Dt
theorem shf_dtf {K : PySem.W.Frag} {H : Hp} : ∀ {vs : List V} {t : Dt}, ShF K H vs t → DtF K H vs t
  | _, _, .nil => .nil
  | _, _, .cons h p q => .tup h (shf_dtf p) (shf_dtf q)
theorem shv_dtv {K : PySem.W.Frag} {H : Hp} {v : V} {t : Dt} (h : ShV K H v t) : DtV K H v t := by
  obtain ⟨a, vs, e, h1, h2⟩ := h
  exact .inr ⟨a, vs, e, h1, shf_dtf h2⟩
theorem first_at {n : Int} : ∀ {l : List Int}, n ∈ l → ∃ j : Nat, l[j]? = some n ∧ ∀ i : Nat, i < j → l[i]? ≠ some n
  | y :: l, h => by
    by_cases e : y = n
    · exact ⟨0, by rw [e]; rfl, fun i hi => absurd hi (Nat.not_lt_zero _)⟩
    · obtain ⟨j, h1, h2⟩ := first_at ((List.mem_cons.mp h).resolve_left fun z => e z.symm)
      refine ⟨j + 1, by simpa using h1, fun i hi => ?_⟩
      cases i with
      | zero =>
        intro z
        exact e (Option.some.inj z)
      | succ i => simpa using h2 i (by omega)
/-- which packets are seated -/
structure SeatN (T : Dt) (L : Lns) (kv : List (Key × V)) (Dn : Nat → Int → Prop) : Prop where
  to : ∀ n i p, (lv T)[i]? = some p → n ∈ its (L p) → Dn i n → valV kv (Sum.inl n : Key) = some (.int (i : Nat))
  fr : ∀ k v, valV kv k = some v → ∃ n i p, k = Sum.inl n ∧ v = .int (i : Nat) ∧ (lv T)[i]? = some p ∧ n ∈ its (L p)
theorem SeatN.imp {T : Dt} {L : Lns} {kv : List (Key × V)} {D1 D2 : Nat → Int → Prop} (s : SeatN T L kv D1) (h : ∀ n i p, (lv T)[i]? = some p → n ∈ its (L p) → D2 i n → D1 i n) : SeatN T L kv D2 :=
  ⟨fun n i p h1 h2 h3 => s.to n i p h1 h2 (h n i p h1 h2 h3), s.fr⟩
theorem SeatN.put {T : Dt} {L : Lns} {kv kv0 : List (Key × V)} {Dn : Nat → Int → Prop} (s : SeatN T L kv Dn) (s0 : Seat T L kv0) {n : Int} {i : Nat} {p : Ad} (hi : (lv T)[i]? = some p) (hn : n ∈ its (L p)) : SeatN T L (putK kv (Sum.inl n : Key) (.int (i : Nat))) fun i' n' => Dn i' n' ∨ (i' = i ∧ n' = n) := by
  refine ⟨fun n' i' p' h1 h2 h3 => ?_, fun k v h => ?_⟩
  · rw [valV_put]
    by_cases e : n' = n
    · subst e
      rw [if_pos rfl]
      have a := s0.to n' i p hi hn
      rw [s0.to n' i' p' h1 h2] at a
      exact a.symm
    · rw [if_neg (fun z => e (Sum.inl.inj z))]
      exact s.to n' i' p' h1 h2 (h3.resolve_right fun z => e z.2)
  · rw [valV_put] at h
    by_cases e : k = Sum.inl n
    · rw [if_pos e] at h
      exact ⟨n, i, p, e, (Option.some.inj h).symm, hi, hn⟩
    · rw [if_neg e] at h
      exact s.fr k v h
structure LnsOK (T : Dt) (L : Lns) (kv : List (Key × V)) : Prop where
  rk : ∀ q, RkOK (L q)
  pw : ∀ q, Asc1 (L q)
  se : Seat T L kv
  sz : ∀ q, (L q).length ≤ 100
  gd : T.good 1 = true
  ht : T.ht < 20
  sm : T.size ≤ 100000
def spWith (K : PySem.W.Frag) (C CS : Addr) : Sp := fun vs H Q _ => ∃ (la : Addr) (fv : V) (Ls : List Addr) (T : Dt) (L : Lns) (kv : List (Key × V)), vs = [fv, .ref la] ∧ ShV K H fv T ∧ T.nodes ≤ 1000 ∧ H la = some (.lst (Ls.map V.ref)) ∧ Ls.length = T.nodes ∧ (∀ q ∈ ad T, ∃ l xs, Ls[T.idx q]? = some l ∧ H l = some (.lst xs) ∧ DpAll K H xs ((L q).map enD)) ∧ LnsOK T L kv ∧
  ∀ H' a ta la' sd Ls' kv', Same H H' → StE K C CS (sd :: Ls') H' a ta la' sd Ls' T L kv' → Seat T L kv' → kv'.length ≤ 100000 → (∀ y ∈ sd :: Ls', H y = none) → H a = none → TN K H (offS (sd :: Ls') H') C ta T ∧ H la' = none → Q (.ref a) H'
def spTwin (K : PySem.W.Frag) (C CS : Addr) : Sp := fun vs H Q _ => ∃ (a ta la sd : Addr) (S Ls : List Addr) (T : Dt) (L : Lns) (kv : List (Key × V)), vs = [.ref a] ∧ StE K C CS S H a ta la sd Ls T L kv ∧ LnsOK T L kv ∧
  ∀ H' a' ta' la' sd' Ls' kv', Same H H' → StE K C CS (sd' :: Ls') H' a' ta' la' sd' Ls' T L kv' → Seat T L kv' → kv'.length ≤ 100000 → (∀ y ∈ sd' :: Ls', H y = none) → H a' = none → TN K H (offS (sd' :: Ls') H') C ta' T ∧ H la' = none → Q (.ref a') H'
section
variable {P : Program} {w : World} {K : PySem.W.Frag} {mg : Str → Option Value} {base : Heap} {C CS U fG : Addr}
theorem ok_placeOf (D : DefAt K mg "place_of" s_place_of ["standing", "node", "number"]) (T0 : Txt K mg) (mp : ∃ t, mg "PACKET_BOUND" = some (.int packB t)) (SC : StCl K CS) (TC : TCl K mg C fG) (GS : CalX P w K mg base (L2.CX P w) 4 "need_standing" ["standing", "word"] (spNeedSt K CS U)) (GNo : CalX P w K mg base (L2.CX P w) 4 "need_node" ["tree", "node", "word"] (spNeedNode K C U)) (GB : CalX P w K mg base CX0 3 "is_below" ["thing", "bound"] (spBelow K)) (GN : CalX P w K mg base (L2.CX P w) 3 "need" ["fits", "word"] (spNeed U)) (GW : CalX P w K mg base CX0 1 "is_within" ["tree", "node", "top"] (spWithin K C)) (GO : CalX P w K mg base CX0 20 "order_at" ["tree", "lines", "node"] (spOrderAt K C 20)) : CalX P w K mg base (L2.CX P w) 21 "place_of" ["standing", "node", "number"] (spPlaceOf K C CS U) := by
  obtain ⟨tk, mp⟩ := mp
  refine D.okX sc_place_of (fun vs H Q E h => ?_) (fun f cdv A outer s H vs Q E hr h => ?_)
  · obtain ⟨x, y, z, g, rfl, _⟩ := h
    rfl
  obtain ⟨x, y, z, g, rfl, hx, q1, q2⟩ := h
  have hu := hu_of hr
  refine ⟨_, (pss_cons (ps_expr (pe_cx GS hr (by decide) rfl (passes_call (takes_of rfl rfl rfl rfl) (fun _ _ _ _ h => h)) (pa_cons (pv 0) (pa_cons pe_str pa_nil)))) 
    (pss_cons (ps_expr (pe_cx GNo hr (by decide) rfl (passes_call (takes_of rfl rfl rfl rfl) (fun _ _ _ _ h => h)) (pa_cons (pe_fld (pv 0) rfl) (pa_cons (pv 1) (pa_cons pe_str pa_nil))))) 
    (pss_cons (ps_expr (pe_cx GN hr (by decide) rfl (passes_call (takes_of rfl rfl rfl rfl) (fun _ _ _ _ h => h)) (pa_cons (pe_c0 GB hr (by decide) rfl (pa_cons (pv 2) (pa_cons (pe_glob (v := .int packB) (by rfl) mp ⟨_, rfl⟩) pa_nil))) (pa_cons pe_str pa_nil)))) 
    (pss_cons (ps_set (i := 3) sc_place_of.nd rfl (.inl rfl) (pe_dget1 hu (pe_fld (pv 0) rfl) (pv 2) ⟨rfl, rfl, rfl, rfl⟩)) 
    (pss_cons (ps_expr (pe_cx GN hr (by decide) rfl (passes_call (takes_of rfl rfl rfl rfl) (fun _ _ _ _ h => h)) (pa_cons (pe_and (pe_cmpR op_notN (pv 3) pe_non (nomark _)) (pe_one (pe_c0 GW hr (by decide) rfl (pa_cons (pe_fld (pv 0) rfl) (pa_cons (pe_ix ix_list (pe_fld (pe_fld (pv 0) rfl) rfl) (pv 3) (fun _ _ => rfl)) (pa_cons (pv 1) pa_nil)))))) (pa_cons pe_str pa_nil)))) 
    (pss_one (ps_ret (pe_bm PySem.F.plainAttrs_list PySem.F.slot_list_index PySem.F.type_list_index mt_index (pe_c0 GO hr (by decide) rfl (pa_cons (pe_fld (pv 0) rfl) (pa_cons (pe_fld (pv 0) rfl) (pa_cons (pv 1) pa_nil)))) (pa_cons (pv 2) pa_nil))))))))), ?_⟩
  refine ⟨_, rfl, x, "standing", g, rfl, hx, fun g1 => ?_, fun g1 => q1 g1⟩
  obtain ⟨a, ta, la, sd, S, Ls, T, L, kv, o, on, rfl, st, hht, con, seat, hL, hy, hz, q3, q4, q5, q6⟩ := q2 g1
  obtain ⟨dx, hob⟩ := st.obj
  obtain ⟨dx', fv, LL, SS, h1, h2, h3, h4⟩ := st.tree
  refine ⟨_, rfl, a, CS, dx, _, _, rfl, hob, SC.cl, SC.nT, rfl, _, rfl, ta, y, o, T, "node", rfl, st.tree, hy, fun hB => ?_, fun hB => q3 hB H (fun _ _ z => z)⟩
  obtain ⟨q, hq, rfl⟩ := below_ad hB
  obtain rfl : y = .int (T.idx q : Nat) := hy
  obtain ⟨u, hu2⟩ := ad_sub hq
  have hn := len_lt_nodes u
  have hi := idx_lt hu2
  have hh : u.ht ≤ T.ht := ht_le hu2
  refine ⟨_, rfl, z, on, packB, rfl, hz, _, _, rfl, fun hP => ?_, fun hP => q4 q u rfl hu2 hP H (fun _ _ y => y)⟩
  obtain ⟨n, rfl⟩ : ∃ n, on = some n := by
    cases on with
    | none => exact nomatch hP
    | some n => exact ⟨n, rfl⟩
  obtain rfl : z = .int n := hz
  refine ⟨_, rfl, a, CS, dx, _, _, rfl, hob, SC.cl, SC.nS, rfl, sd, rfl, .inl ⟨kv, .inl st.se⟩, _, rfl, _, .inl ⟨kv, (Sum.inl n : Key), .inl st.se, rfl, rfl⟩, ?_⟩
  have conu := con.at hu2
  -- present beneath the node
  have absent : n ∉ ord u (at_ q L) → spNeed U [.bl false, .str (Str.ofString "number")] H (fun _ H' => True ∧ False) E := fun hno => ⟨false, _, rfl, (fun e => nomatch e), fun _ d hd => q5 q u n rfl hu2 rfl hP hno H (fun _ _ y => y) d hd⟩
  cases hv : valV kv (Sum.inl n : Key) with
  | none =>
    have hno : n ∉ ord u (at_ q L) := fun hm => by
      obtain ⟨p, w, p1, p2, p3⟩ := ord_mem _ u _ (Nat.le_refl _) conu n hm
      have hp : q ++ p ∈ lv T := List.mem_filter.mpr ⟨sub_ad (by rw [(sub_app T q u hu2 p).1]; exact p1), by rw [isLf_o (by rw [(sub_app T q u hu2 p).1]; exact p1), p2]; rfl⟩
      obtain ⟨i, hi⟩ := List.mem_iff_getElem?.mp hp
      rw [seat.to n i _ hi p3] at hv
      exact nomatch hv
    refine ⟨_, rfl, rfl, _, rfl, ?_⟩
    refine iteF ?_
    exact ⟨false, _, rfl, (fun e => nomatch e), fun _ d hd => q5 q u n rfl hu2 rfl hP hno H (fun _ _ y => y) d hd⟩
  | some v =>
    obtain ⟨n', i, p, e1, rfl, hp, hnp⟩ := seat.fr _ _ hv
    obtain rfl : n = n' := Sum.inl.inj e1
    have hpl : p ∈ lv T := List.mem_of_getElem? hp
    have hp8 := h2 8 (by decide)
    obtain ⟨v8, e8, rfl⟩ := Paired.at hp8 (show (aof 8 T)[i]? = some p from hp)
    refine ⟨_, rfl, rfl, _, rfl, ?_⟩
    refine iteT ?_
    refine ⟨_, rfl, a, CS, dx, _, _, rfl, hob, SC.cl, SC.nT, rfl, _, rfl, a, CS, dx, _, _, rfl, hob, SC.cl, SC.nT, rfl, ta, C, dx', _, _, rfl, h1.ob, TC.cl, TC.n8, stF_8 _ _, _, rfl, LL 8, _, _, _, rfl, rfl, SqL.of (h1.ls 8 (by decide)), atI_nat e8, _, rfl, ta, T, q, p, rfl, st.tree, hq, lv_ad hpl, ?_⟩
    refine ⟨_, _, rfl, fun hc => ?_, fun hc d hd => ?_⟩
    · have hpre : q <+: p := of_decide_eq_true hc
      refine ⟨_, rfl, a, CS, dx, _, _, rfl, hob, SC.cl, SC.nT, rfl, _, rfl, a, CS, dx, _, _, rfl, hob, SC.cl, SC.nL, rfl, _, rfl, ta, la, Ls, T, u, L, q, rfl, st.rd, con, hu2, by omega, by omega, hL, fun H' pp s hpp hp2 => ?_⟩
      obtain ⟨r, rfl⟩ := hpre
      obtain ⟨w', w1, w2⟩ := lv_lf hpl
      rw [(sub_app T q u hu2 r).1] at w1
      have hm := mem_ord r u w' (at_ q L) conu w1 w2 n hnp
      obtain ⟨j, hj, hj2⟩ := first_at hm
      refine ⟨.inl ⟨rfl, _, SqL.of hp2⟩, _, rfl, pp, _, _, j, .int n, rfl, rfl, SqL.of hp2, rfl, ?_, (by rw [List.getElem?_map, hj]; rfl), ?_, ?_, q6 q u n j rfl hu2 rfl hj hj2 H' s⟩
      · rw [List.all_eq_true]
        intro y hy
        obtain ⟨k, _, rfl⟩ := List.mem_map.mp hy
        rfl
      · exact beq_self_eq_true n
      · intro m z' hm2 hz'
        rw [List.getElem?_map] at hz'
        obtain ⟨y, hy, rfl⟩ := Option.map_eq_some_iff.mp hz'
        show (y == n) = false
        refine beq_false_of_ne fun e => hj2 m hm2 ?_
        rw [hy, e]
    · have hno : n ∉ ord u (at_ q L) := fun hm => by
        obtain ⟨r, w', p1, p2, p3⟩ := ord_mem _ u _ (Nat.le_refl _) conu n hm
        have hp' : q ++ r ∈ lv T := List.mem_filter.mpr ⟨sub_ad (by rw [(sub_app T q u hu2 r).1]; exact p1), by rw [isLf_o (by rw [(sub_app T q u hu2 r).1]; exact p1), p2]; rfl⟩
        obtain ⟨i', hi'⟩ := List.mem_iff_getElem?.mp hp'
        have g1 := seat.to n i' _ hi' p3
        rw [hv] at g1
        have : i = i' := by
          have := Option.some.inj g1
          injection this with this
          omega
        subst this
        rw [lv_inj hp hi'] at hc
        exact absurd (decide_eq_true (List.prefix_append q r)) (by rw [hc]; decide)
      exact q5 q u n rfl hu2 rfl hP hno H (fun _ _ y => y) d hd
end
end K26
set_option Elab.async false
set_option linter.all false
set_option maxRecDepth 100000
set_option maxHeartbeats 8000000
namespace K26
open PySem PySem.Spec PyProof.Rows L2 Dt
theorem call_list_ofK {X : Cx} {K : PySem.W.Frag} (hK : X.K = K) : CallR X (.type "list") fun xs H Q => ∃ p ys, xs = [V.ref p] ∧ (SqL K H p ys ∨ SqT K H p ys) ∧ ∀ (l : Addr), H l = none → Q (V.ref l) (upd H l (HO.lst ys)) := by
  subst hK
  exact call_list_of
theorem stS_ne {ta la sd : Addr} {fv : V} {LL : Nat → Addr} (h : stS ta la sd = stF fv LL) : False := by
  exact absurd (show (3 : Nat) = 11 from congrArg List.length h) (by decide)
theorem tree_ne {K : PySem.W.Frag} {H : Hp} {C CS a ta la sd dx : Addr} {T : Dt} (t : Tree K H C ta T) (h : H a = some (.ins CS dx (stS ta la sd))) : a ≠ ta := fun e => by
  obtain ⟨dx', fv, LL, SS, h1, _⟩ := t
  have h2 := h1.ob
  rw [← e, h] at h2
  injection h2 with h2
  injection h2 with _ _ h2
  exact stS_ne h2
theorem lf_le (T : Dt) : T.lf ≤ T.nodes := by
  rw [← ad_len]
  exact List.length_filter_le ..
section
variable {P : Program} {w : World} {K : PySem.W.Frag} {mg : Str → Option Value} {base : Heap} {C CS U fG : Addr}
theorem ok_with {fS : Addr} {fdS : FuncData} (D : DefAt K mg "standing_with" s_standing_with ["form", "lines"]) (T0 : Txt K mg) (hE : mg "enumerate" = none) (hLi : mg "list" = none) (SC : StCl K CS) (TC : TCl K mg C fG) (MS : Mk K CS fS) (gS : mg "Standing" = some (.ref CS)) (bS : Binds K fdS ["self", "form"] []) (FS : FnOk P w K mg base (L2.CX P w) 24 fS fdS ["self", "form"] (spMade K C CS U)) :
    CalX P w K mg base (L2.CX P w) 26 "standing_with" ["form", "lines"] (spWith K C CS) := by
  refine D.okX sc_standing_with (fun vs H Q E h => ?_) (fun f cdv A outer s H vs Q E hr h => ?_)
  · obtain ⟨la, fv, Ls, T, L, kv, rfl, _⟩ := h
    rfl
  obtain ⟨la, fv, Ls, T, L, kv, rfl, hfv, hno, hla, hLl, hli, ok, q⟩ := h
  have hu := hu_of hr
  refine ⟨_, (pss_cons (ps_set (i := 2) sc_standing_with.nd rfl (.inl rfl) (pe_make MS FS (hr.mono (by decide)) rfl gS bS .nil (passes_call (takes_of rfl rfl rfl rfl) (fun _ _ _ _ h => h)) (pa_cons (pv 0) pa_nil))) 
    (pss_cons (ps_fld (pv 2) (pe_lc (own := [("line", 3)]) (g := gName 3) (tt := tYes) (by rfl) sc_standing_with.nd (pi_list (pv 1)) (blkOk_by (own := [("line", 3)]) (N := N_standing_with) (sc := defScope s_standing_with) (by decide +kernel)) (fun _ _ _ _ _ => pg_name (i := 3) sc_standing_with.nd rfl (Or.inl rfl)) (fun _ _ _ _ _ => pts_nil) (fun _ _ _ _ _ => by exact (pe_callTy (call_list_ofK (K := K) (by exact rfl)) (by rfl) hLi (by decide +kernel) (pa_cons (pv 3) pa_nil)))) rfl) 
    (pss_cons (ps_for (passes_of rfl) rfl (pi_enum (by rfl) hE (pa_cons (pe_fld (pe_fld (pv 2) rfl) rfl) pa_nil)) (pg_tup (by rfl) (pgs_cons (pg_name (i := 4) sc_standing_with.nd rfl (Or.inl rfl)) (pgs_cons (pg_name (i := 5) sc_standing_with.nd rfl (Or.inl rfl)) pgs_nil))) 
      (pss_one (ps_for (passes_of rfl) rfl (pi_list (pe_ix ix_list (pe_fld (pv 2) rfl) (pv 5) (fun _ _ => rfl))) (pg_name (i := 6) sc_standing_with.nd rfl (Or.inl rfl)) 
        (pss_one (ps_dput hu (pe_fld (pv 2) rfl) (pe_ix ix_tup (pv 6) pe_int (fun _ _ => rfl)) (pv 4) rfl))))) 
    (pss_one (ps_ret (pv 2)))))), ?_⟩
  refine ⟨_, rfl, fun a dx ha hdx hne => ?_⟩
  have s0 : Same H (upd (upd H dx (.own a)) a (.ins CS dx [])) := fun y o h => by rw [upd_ne (ne_of_none h ha), upd_ne (ne_of_none h hdx)]; exact h
  refine ⟨a, dx, fv, T, rfl, upd_same, same_dtv s0 (shv_dtv hfv), ok.sm, fun _ => ⟨ok.ht, hno, fun H1 ta la1 sd Ls1 st1 tn1 fr1 fresh1 => ⟨rfl, ?_⟩⟩, fun bad => absurd (ok.gd.symm.trans bad) (by decide)⟩
  have s1 : Same H H1 := fun y o h => fr1 y o (s0 y o h) (ne_of_none h ha)
  have hsd0 : H sd = none := by
    cases e : H sd with
    | none => rfl
    | some o =>
      have := fresh1 sd (List.mem_cons_self ..)
      rw [s0 _ _ e] at this
      exact nomatch this
  obtain ⟨dx1, hob1'⟩ := st1.ob
  have hob1 := (offS_some hob1').2
  have naS1 := (offS_some hob1').1
  refine ⟨_, rfl, la, rfl, ⟨_, SqL.of (s1 _ _ hla)⟩, fun Dl hDl => ?_⟩
  refine lc_list (K := K) (a := la) (xs := Ls.map V.ref) (fun j H' => Same H1 H' ∧ ∃ Ms : List Addr, H' Dl = some (.lst (Ms.map V.ref)) ∧ Ms.length = j ∧ (∀ (i : Nat) (m : Addr), Ms[i]? = some m → ∃ l xs, Ls[i]? = some l ∧ H l = some (.lst xs) ∧ H' m = some (.lst xs) ∧ H1 m = none) ∧ (Dl :: Ms).Nodup) ⟨same_new hDl, [], upd_same, rfl, (fun i m z => by simp at z), by simp⟩ (fun j H' _ hh => SqL.of (hh.1 _ _ (s1 _ _ hla))) ?_ ?_
  · rintro j x H' hj ⟨sm, Ms, hD, hl, hM, hnd⟩
    rw [List.getElem?_map] at hj
    obtain ⟨l, hlj, rfl⟩ := Option.map_eq_some_iff.mp hj
    have hjl := (List.getElem?_eq_some_iff.mp hlj).1
    have hjl2 := hjl
    rw [hLl, ← ad_len] at hjl
    obtain ⟨l', xs, g1, g2, g3⟩ := hli _ (List.getElem_mem hjl)
    rw [idx_of (List.getElem?_eq_getElem hjl), hlj] at g1
    obtain rfl := Option.some.inj g1
    have hl1 := s1 _ _ g2
    refine ⟨rfl, _, rfl, l, _, rfl, .inl (SqL.of (sm _ _ hl1)), fun p hp => ?_⟩
    have npD : p ≠ Dl := fun e => by
      rw [e, hD] at hp
      exact nomatch hp
    obtain ⟨nd1, nd2⟩ := List.nodup_cons.mp hnd
    have npM : p ∉ Ms := fun z => by
      obtain ⟨i, hi⟩ := List.mem_iff_getElem?.mp z
      obtain ⟨_, xs', _, _, z2, _⟩ := hM i p hi
      rw [z2] at hp
      exact nomatch hp
    refine ⟨Ms.map V.ref, (same_new hp) _ _ hD, small1000 (by rw [List.length_map]; omega), same_mut (sm.trans (same_new hp)) hDl, Ms ++ [p], by rw [upd_same, List.map_append]; rfl, by rw [List.length_append]; show Ms.length + 1 = j + 1; omega, fun i m hm => ?_, ?_⟩
    · by_cases cc : i < Ms.length
      · rw [List.getElem?_append_left cc] at hm
        obtain ⟨l2, xs2, z1, z2, z3, z4⟩ := hM i m hm
        refine ⟨l2, xs2, z1, z2, ?_, z4⟩
        rw [upd_ne (fun e => nd1 (by rw [← e]; exact List.mem_of_getElem? hm))]
        exact (same_new hp) _ _ z3
      · have hi := (List.getElem?_eq_some_iff.mp hm).1
        rw [List.length_append] at hi
        have hi2 : i < Ms.length + 1 := hi
        obtain rfl : i = Ms.length := by omega
        rw [List.getElem?_append_right (Nat.le_refl _), Nat.sub_self] at hm
        obtain rfl := Option.some.inj hm
        refine ⟨l, xs, by rw [hl]; exact hlj, g2, ?_, sm.free hp⟩
        rw [upd_ne npD]
        exact upd_same
    · refine List.nodup_cons.mpr ⟨fun z => ?_, List.nodup_append.mpr ⟨nd2, by simp, fun x hx y hy e => ?_⟩⟩
      · rcases List.mem_append.mp z with z | z
        · exact nd1 z
        · exact npD (List.mem_singleton.mp z).symm
      · rw [List.mem_singleton.mp hy] at e
        exact npM (e ▸ hx)
  rintro H2 ⟨s2, Ms, hD, hMl, hM, hnd⟩
  rw [List.length_map, hLl] at hMl
  obtain ⟨nd1, nd2⟩ := List.nodup_cons.mp hnd
  have hob2 := s2 _ _ hob1
  refine ⟨_, rfl, a, CS, dx1, _, rfl, hob2, SC.cl, SC.nL, (by show 3 < 1000; decide), ?_⟩
  have ef : putF "lines" (.ref Dl) (stS ta la1 sd) = stS ta Dl sd := by rfl
  rw [ef]
  have hMn : ∀ m ∈ Ms, H1 m = none := fun m hm => by
    obtain ⟨i, hi⟩ := List.mem_iff_getElem?.mp hm
    obtain ⟨_, _, _, _, _, z⟩ := hM i m hi
    exact z
  have hsd2 := s2 _ _ st1.se
  have nsa : sd ≠ a := fun e => naS1 (by rw [← e]; exact List.mem_cons_self ..)
  have nsM : sd ∉ Ms := fun z => by
    have := hMn sd z
    rw [st1.se] at this
    exact nomatch this
  have naM : a ∉ Ms := fun z => by
    have := hMn a z
    rw [hob1] at this
    exact nomatch this
  have naS : a ∉ sd :: Ms := fun z => (List.mem_cons.mp z).elim (fun e => nsa e.symm) naM
  have nDsd : Dl ≠ sd := fun e => by
    rw [e, st1.se] at hDl
    exact nomatch hDl
  have nDS : Dl ∉ sd :: Ms := fun z => (List.mem_cons.mp z).elim nDsd nd1
  have nDa : Dl ≠ a := fun e => by
    rw [e, hob1] at hDl
    exact nomatch hDl
  have gT : Same (offS [a] (offS (sd :: Ls1) H1)) (offS (sd :: Ms) (upd H2 a (.ins CS dx1 (stS ta Dl sd)))) := fun y o h => by
    obtain ⟨n1, h1'⟩ := offS_some h
    obtain ⟨n2, h2'⟩ := offS_some h1'
    rw [offS_ne (fun z => ?_), upd_ne (fun z => n1 (List.mem_singleton.mpr z))]
    · exact s2 _ _ h2'
    · rcases List.mem_cons.mp z with z | z
      · exact n2 (by rw [z]; exact List.mem_cons_self ..)
      · rw [hMn y z] at h2'
        exact nomatch h2'
  have TO := ((st1.tr.off hob1' (tree_ne st1.tr hob1')).same gT)
  have tn3 := (((tn1.1.from (fun y e => s0.free e)).off hob1' (tree_ne st1.tr hob1')).same gT)
  have gH : Same H (offS (sd :: Ms) (upd H2 a (.ins CS dx1 (stS ta Dl sd)))) := fun y o h => by
    rw [offS_ne (fun z => ?_), upd_ne (ne_of_none h ha)]
    · exact s2 _ _ (s1 _ _ h)
    · rcases List.mem_cons.mp z with z | z
      · rw [z, hsd0] at h
        exact nomatch h
      · have := hMn y z
        rw [s1 _ _ h] at this
        exact nomatch this
  have hMH : ∀ (i : Nat) (m : Addr), Ms[i]? = some m → ∃ l xs, Ls[i]? = some l ∧ H l = some (.lst xs) ∧ (upd H2 a (.ins CS dx1 (stS ta Dl sd))) m = some (.lst xs) := fun i m hm => by
    obtain ⟨l, xs, z1, z2, z3, _⟩ := hM i m hm
    refine ⟨l, xs, z1, z2, ?_⟩
    rw [upd_ne (fun e => naM (by rw [← e]; exact List.mem_of_getElem? hm))]
    exact z3
  have st3 : StE K C CS (sd :: Ms) (upd H2 a (.ins CS dx1 (stS ta Dl sd))) a ta Dl sd Ms T L [] := by
    refine ⟨fun y hy => hy, fun y hy => ?_, List.nodup_cons.mpr ⟨nsM, nd2⟩, ⟨dx1, by rw [offS_ne naS]; exact upd_same⟩, TO, (by rw [offS_ne nDS, upd_ne nDa]; exact hD), hMl, fun q hq => ?_, (by rw [upd_ne nsa]; exact hsd2), ok.rk, ok.pw⟩
    · rcases List.mem_cons.mp hy with e | hy
      · rw [e, upd_ne nsa, hsd2]
        exact fun z => nomatch z
      · obtain ⟨i, hi⟩ := List.mem_iff_getElem?.mp hy
        obtain ⟨_, _, _, _, z⟩ := hMH i y hi
        rw [z]
        exact fun z => nomatch z
    · obtain ⟨l, xs, z1, z2, z3⟩ := hli q hq
      have hil := (List.getElem?_eq_some_iff.mp z1).1
      have hmi : Ms[T.idx q]? = some (Ms[T.idx q]'(by rw [hMl, ← hLl]; exact hil)) := List.getElem?_eq_getElem _
      obtain ⟨l', xs', y1, y2, y3⟩ := hMH _ _ hmi
      rw [z1] at y1
      obtain rfl := Option.some.inj y1
      rw [z2] at y2
      injection y2 with y2
      injection y2 with y2
      subst y2
      exact ⟨_, xs, hmi, y3, dps_same gH z3⟩
  have s3 : Same H (upd H2 a (.ins CS dx1 (stS ta Dl sd))) := gH.trans offS_same
  revert st3 s3 tn3
  generalize upd H2 a (.ins CS dx1 (stS ta Dl sd)) = H3
  intro tn3 st3 s3
  have fin : ∀ H' kv', GoS [sd] H3 H' → StE K C CS (sd :: Ms) H' a ta Dl sd Ms T L kv' → SeatN T L kv' (fun i _ => i < T.lf) → kv'.length ≤ 100000 → Q (.ref a) H' := fun H' kv' g st' se hl => by
    refine q H' a ta Dl sd Ms kv' (fun y o h => g.at (s3 _ _ h) fun z => ?_) st' ⟨fun n i p h1 h2 => se.to n i p h1 h2 ?_, se.fr, ok.se.nd⟩ hl (fun y hy => ?_) ha ⟨tn3.same (g.wide fun y hy => by rw [List.mem_singleton.mp hy]; exact List.mem_cons_self ..).s, s1.free hDl⟩
    · rw [List.mem_singleton.mp z, hsd0] at h
      exact nomatch h
    · exact (List.getElem?_eq_some_iff.mp h1).1
    · rcases List.mem_cons.mp hy with e | hy
      · rw [e]
        exact hsd0
      · exact s1.free (hMn y hy)
  obtain ⟨dx3, hob3'⟩ := st3.ob
  have hob3 := (offS_some hob3').2
  obtain ⟨dy, fv', LL, SS, h1, h2, h3, h4⟩ := st3.tr
  have hS8 : (SS 8).length = T.lf := h2.lenL
  have gM : ∀ H', GoS [sd] H3 H' → Same (offS (sd :: Ms) H3) (offS (sd :: Ms) H') := fun H' g => (g.wide fun y hy => by rw [List.mem_singleton.mp hy]; exact List.mem_cons_self ..).s
  refine ⟨_, rfl, a, CS, dx3, _, _, rfl, hob3, SC.cl, SC.nT, rfl, ta, C, dy, _, _, rfl, (offS_some h1.ob).2, TC.cl, TC.n8, stF_8 _ _, LL 8, SS 8, rfl, SqL.of (offS_some (h1.ls 8 (by decide))).2, ?_⟩
  refine for_enumL (K := K) (a := LL 8) (xs := SS 8) (fun i σ H' => ∃ o3 o4 o5 o6 kv', σ = [some fv, some (.ref la), some (.ref a), o3, o4, o5, o6] ∧ GoS [sd] H3 H' ∧ StE K C CS (sd :: Ms) H' a ta Dl sd Ms T L kv' ∧ SeatN T L kv' (fun i' _ => i' < i) ∧ kv'.length ≤ 100 * i)
    ⟨_, _, _, _, [], rfl, GoS.refl, st3, ⟨fun n i p _ _ h => absurd h (Nat.not_lt_zero _), fun k v h => nomatch h⟩, Nat.zero_le _⟩ ?_ ?_ ?_
  · rintro i σ H' ⟨o3, o4, o5, o6, kv', rfl, g, _⟩
    exact SqL.of ((gM H' g).trans offS_same _ _ (h1.ls 8 (by decide)))
  · rintro i x T1 σ H' hx ⟨o3, o4, o5, o6, kv', rfl, g, st', se, hkl⟩ hT1
    have hp8 := h2 8 (by decide)
    have hil := (List.getElem?_eq_some_iff.mp hx).1
    rw [hS8] at hil
    have hpl : (lv T)[i]? = some ((lv T)[i]'hil) := List.getElem?_eq_getElem hil
    generalize (lv T)[i]'hil = p at hpl
    obtain ⟨v8, e8, ev8⟩ := Paired.at hp8 (show (aof 8 T)[i]? = some p from hpl)
    rw [hx] at e8
    obtain rfl := Option.some.inj e8
    obtain rfl : x = .int (T.idx p : Nat) := ev8
    have hpv := List.mem_of_getElem? hpl
    have hT3 : (upd H' T1 (.tup [.int (i : Nat), .int (T.idx p : Nat)])) T1 = some (.tup [.int (i : Nat), .int (T.idx p : Nat)]) := upd_same
    have st4 := st'.same (same_new (o := .tup [.int (i : Nat), .int (T.idx p : Nat)]) hT1)
    have g4 := g.new (v := .tup [.int (i : Nat), .int (T.idx p : Nat)]) hT1
    revert hT3 st4 g4
    generalize upd H' T1 (.tup [.int (i : Nat), .int (T.idx p : Nat)]) = H4
    intro hT3 st4 g4
    refine ⟨T1, _, rfl, SqT.of hT3, rfl, ?_⟩
    refine ⟨_, _, rfl, _, _, rfl, rfl, ?_⟩
    obtain ⟨m, xs, k1, k2, k3⟩ := st4.li _ (lv_ad hpv)
    have hxl := dps_len k3
    rw [List.length_map] at hxl
    have hsz := ok.sz p
    obtain ⟨dx4, hob4⟩ := st4.obj
    have nmsd : m ≠ sd := fun e => nsM (by rw [← e]; exact List.mem_of_getElem? k1)
    refine ⟨_, rfl, a, CS, dx4, _, _, rfl, hob4, SC.cl, SC.nL, rfl, _, rfl, Dl, _, _, _, rfl, rfl, SqL.of st4.lst, (atI_nat (by rw [List.getElem?_map, k1]; rfl)), ?_⟩
    refine ⟨m, rfl, ⟨_, SqL.of k2⟩, ?_⟩
    refine for_list (K := K) (a := m) (xs := xs) (fun j σ H' => ∃ o3 o6 kv', σ = [some fv, some (.ref la), some (.ref a), o3, some (.int (i : Nat)), some (.int (T.idx p : Nat)), o6] ∧ GoS [sd] H4 H' ∧ StE K C CS (sd :: Ms) H' a ta Dl sd Ms T L kv' ∧ SeatN T L kv' (fun i' n => i' < i ∨ (i' = i ∧ n ∈ (its (L p)).take j)) ∧ kv'.length ≤ 100 * i + j)
      ⟨_, _, kv', rfl, GoS.refl, st4, se.imp (fun n i' p' _ _ h => h.elim id fun z => by rw [List.take_zero] at z; exact nomatch z.2), by omega⟩ (fun j σ H' _ ⟨_, _, _, _, g', _⟩ => SqL.of (g'.at k2 fun z => nmsd (List.mem_singleton.mp z))) ?_ ?_
    · rintro j x σ H5 hj ⟨o3, o6, kv5, rfl, g5, st5, se5, hl5⟩
      obtain ⟨e, b, rv, y1, rfl, y2, y3⟩ := dps_en k3 hj
      have hjl := (List.getElem?_eq_some_iff.mp hj).1
      obtain ⟨dx5, hob5⟩ := st5.obj
      have gM5 : Same (offS (sd :: Ms) H4) (offS (sd :: Ms) H5) := (g5.wide fun y hy => by rw [List.mem_singleton.mp hy]; exact List.mem_cons_self ..).s
      have hlf : T.lf ≤ T.nodes := lf_le T
      have hsl := sizeLine_eq
      refine ⟨_, rfl, _, rfl, a, CS, dx5, _, _, rfl, hob5, SC.cl, SC.nS, rfl, _, rfl, b, _, _, _, rfl, rfl, same_sqt offS_same (same_sqt gM5 y2), (show atI [rv, V.int e.2] ((1 : Nat) : Int) = some (V.int e.2) from atI_nat rfl), sd, _, rfl, .inl ⟨kv5, (Sum.inl e.2 : Key), st5.se, rfl, by omega, rfl⟩, ?_⟩
      have hin : e.2 ∈ its (L p) := List.mem_map_of_mem (List.mem_of_getElem? y1)
      refine ⟨o3, _, _, rfl, g5.upd (List.mem_singleton.mpr rfl), st5.setS _, (se5.put ok.se hpl hin).imp (fun n i' p' a1 a2 h => ?_), ?_⟩
      · rcases h with h | ⟨h, h2⟩
        · exact .inl (.inl h)
        · rw [List.take_add_one] at h2
          rcases List.mem_append.mp h2 with h2 | h2
          · exact .inl (.inr ⟨h, h2⟩)
          · refine .inr ⟨h, ?_⟩
            unfold its at h2
            rw [List.getElem?_map, y1] at h2
            simpa using h2
      · have := putK_le kv5 (Sum.inl e.2 : Key) (.int (i : Nat))
        omega
    · rintro σ H5 ⟨o3, o6, kv5, rfl, g5, st5, se5, hl5⟩
      refine ⟨_, _, _, _, kv5, rfl, g4.trans g5, st5, se5.imp (fun n i' p' a1 a2 h => ?_), by omega⟩
      rcases Nat.lt_or_eq_of_le (Nat.lt_succ_iff.mp h) with h | h
      · exact .inl h
      · refine .inr ⟨h, ?_⟩
        subst h
        rw [lv_inj a1 hpl] at a2
        rw [hxl, List.take_of_length_le (by unfold its; rw [List.length_map]; exact Nat.le_refl _)]
        exact a2
  · rintro σ H' ⟨o3, o4, o5, o6, kv', rfl, g, st', se, hkl⟩
    rw [hS8] at se hkl
    have hlf : T.lf ≤ T.nodes := lf_le T
    exact ⟨_, rfl, fin H' kv' g st' se (by omega)⟩
theorem ok_twin {f : Addr} {fd : FuncData} (F : Fun K "twin" "Standing.twin" s_Standing_twin f fd) (SC : StCl K CS) (TC : TCl K mg C fG) (GW : CalX P w K mg base (L2.CX P w) 26 "standing_with" ["form", "lines"] (spWith K C CS)) : FnOk P w K mg base (L2.CX P w) 27 f fd ["self"] (spTwin K C CS) := by
  refine F.okX sc_Standing_twin (fun vs H Q E h => ?_) (fun cdv A outer s H vs Q E hr h => ?_)
  · obtain ⟨a, ta, la, sd, S, Ls, T, L, kv, rfl, _⟩ := h
    rfl
  obtain ⟨a, ta, la, sd, S, Ls, T, L, kv, rfl, st, ok, q⟩ := h
  refine ⟨_, (pss_one (ps_ret (pe_cx GW hr (by decide) rfl (passes_call (takes_of rfl rfl rfl rfl) (fun _ _ _ _ h => h)) (pa_cons (pe_fld (pe_fld (pv 0) rfl) rfl) (pa_cons (pe_fld (pv 0) rfl) pa_nil))))), ?_⟩
  obtain ⟨dx, hob⟩ := st.obj
  obtain ⟨dx', fv, LL, SS, h1, h2, h3, h4⟩ := st.tree
  have rd := st.rd
  exact ⟨_, rfl, a, CS, dx, _, _, rfl, hob, SC.cl, SC.nT, rfl, ta, C, dx', _, _, rfl, h1.ob, TC.cl, TC.nF, stF_form _ _, _, rfl, a, CS, dx, _, _, rfl, hob, SC.cl, SC.nL, rfl, la, fv, Ls, T, L, kv, rfl, h3, h4, st.lst, st.len, rd.li, ok, q⟩
end
end K26
set_option Elab.async false
set_option linter.all false
set_option maxRecDepth 100000
set_option maxHeartbeats 8000000
namespace K26
open PySem PySem.Spec PyProof.Rows L2 Dt
/-! ### the tape -/
def tapeL (ca : Addr) (i b s : Int) : List V := [.ref ca, .int i, .int b, .int s]
def Tape (K : PySem.W.Frag) (H : Hp) (tp ca : Addr) : Prop := ∃ (cs : List Int) (i b s : Int), ca ≠ tp ∧ H tp = some (.lst (tapeL ca i b s)) ∧ H ca = some (.lst (cs.map V.int)) ∧ 0 ≤ i ∧ cs.length ≤ 1000
/-- all but the tape's list stays -/
def Go (tp : Addr) (H H' : Hp) : Prop := Same (del H tp) (del H' tp)
theorem Go.refl {tp : Addr} {H : Hp} : Go tp H H := fun _ _ h => h
theorem Go.trans {tp : Addr} {H H1 H2 : Hp} (a : Go tp H H1) (b : Go tp H1 H2) : Go tp H H2 := fun x o h => b x o (a x o h)
theorem Go.of {tp : Addr} {H H' : Hp} (e : Same H H') : Go tp H H' := fun x o h => by
  by_cases z : x = tp
  · rw [z, del_same] at h
    exact nomatch h
  · rw [del_ne z] at h ⊢
    exact e x o h
theorem off_same {tp : Addr} {H : Hp} : Same (del H tp) H := fun x o h => by
  by_cases z : x = tp
  · rw [z, del_same] at h
    exact nomatch h
  · rw [del_ne z] at h
    exact h
theorem Go.at {tp a : Addr} {H H' : Hp} {o : HO} (g : Go tp H H') (h : H a = some o) (ne : a ≠ tp) : H' a = some o := by
  have := g a o (by rw [del_ne ne]; exact h)
  rw [del_ne ne] at this
  exact this
theorem Tape.same {K : PySem.W.Frag} {H H' : Hp} {tp ca : Addr} (t : Tape K H tp ca) (e : Same H H') : Tape K H' tp ca := by
  obtain ⟨cs, i, b, s, h1, h2, h3, h4⟩ := t
  exact ⟨cs, i, b, s, h1, e _ _ h2, e _ _ h3, h4⟩
theorem Tape.some {K : PySem.W.Frag} {H : Hp} {tp ca : Addr} (t : Tape K H tp ca) : ∃ u, H tp = .some u := by
  obtain ⟨cs, i, b, s, h1, h2, _⟩ := t
  exact ⟨_, h2⟩
theorem Tape.someC {K : PySem.W.Frag} {H : Hp} {tp ca : Addr} (t : Tape K H tp ca) : ∃ u, H ca = .some u := by
  obtain ⟨cs, i, b, s, h1, h2, h3, _⟩ := t
  exact ⟨_, h3⟩
theorem Tape.new {K : PySem.W.Frag} {H : Hp} {tp ca p : Addr} (t : Tape K H tp ca) (h : H p = none) : p ≠ tp := fun z => by
  obtain ⟨u, e⟩ := t.some
  rw [z, e] at h
  exact nomatch h
theorem Tape.newC {K : PySem.W.Frag} {H : Hp} {tp ca p : Addr} (t : Tape K H tp ca) (h : H p = none) : p ≠ ca := fun z => by
  obtain ⟨u, e⟩ := t.someC
  rw [z, e] at h
  exact nomatch h
theorem Tape.mut {K : PySem.W.Frag} {H : Hp} {tp ca p : Addr} {o : HO} (t : Tape K H tp ca) (h : p ≠ tp) (h' : p ≠ ca) : Tape K (upd H p o) tp ca := by
  obtain ⟨cs, i, b, s, h1, h2, h3, h4⟩ := t
  exact ⟨cs, i, b, s, h1, by rw [upd_ne (Ne.symm h)]; exact h2, by rw [upd_ne (Ne.symm h')]; exact h3, h4⟩
/-- from H to H', the tape in both -/
structure Rn (K : PySem.W.Frag) (tp ca : Addr) (H H' : Hp) : Prop where
  a : Tape K H tp ca
  b : Tape K H' tp ca
  g : Go tp H H'
section
variable {K : PySem.W.Frag} {tp ca : Addr} {H H' H1 H2 : Hp}
theorem Rn.refl (t : Tape K H tp ca) : Rn K tp ca H H := ⟨t, t, Go.refl⟩
theorem Rn.trans (r : Rn K tp ca H H1) (s : Rn K tp ca H1 H2) : Rn K tp ca H H2 := ⟨r.a, s.b, r.g.trans s.g⟩
theorem Rn.of (t : Tape K H tp ca) (s : Same H H') : Rn K tp ca H H' := ⟨t, t.same s, Go.of s⟩
theorem Rn.same (r : Rn K tp ca H H1) (s : Same H1 H2) : Rn K tp ca H H2 := r.trans (Rn.of r.b s)
theorem Rn.mut {p : Addr} {o : HO} (r : Rn K tp ca H H') (h : H p = none) : Rn K tp ca H (upd H' p o) := by
  refine ⟨r.a, r.b.mut (r.a.new h) (r.a.newC h), fun x u e => ?_⟩
  have e2 := r.g x u e
  by_cases z : x = tp
  · rw [z, del_same] at e
    exact nomatch e
  · rw [del_ne z] at e e2 ⊢
    rw [upd_ne (ne_of_none e h)]
    exact e2
theorem Rn.at {a : Addr} {o : HO} (r : Rn K tp ca H H') (h : H a = some o) (ne : a ≠ tp) : H' a = some o := r.g.at h ne
theorem Rn.free {p : Addr} (r : Rn K tp ca H H') (h : H' p = none) : H p = none := by
  cases e : H p with
  | none => rfl
  | some o =>
    have ne := r.b.new h
    rw [r.at e ne] at h
    exact nomatch h
theorem Rn.dp {v : V} {d : PyData} (r : Rn K tp ca H H') (h : Dp K (del H tp) v d) : Dp K (del H' tp) v d := dp_same r.g h
theorem Rn.sqt {a : Addr} {xs : List V} (r : Rn K tp ca H H') (h : SqT K (del H tp) a xs) : SqT K (del H' tp) a xs := same_sqt r.g h
end
/-- new data does not rest on the tape -/
theorem DpF.off {K : PySem.W.Frag} {H H' : Hp} {tp ca : Addr} {v : V} {d : PyData} (t : Tape K H tp ca) (f : DpF K H H' v d) : Dp K (del H' tp) v d := f _ fun b u h1 h2 => by
  rw [del_ne (t.new h1)]
  exact h2
theorem dp_on {K : PySem.W.Frag} {H : Hp} {tp : Addr} {v : V} {d : PyData} (h : Dp K (del H tp) v d) : Dp K H v d := dp_same off_same h
theorem mod_natI (z : Int) {n : Nat} (h : 0 < n) : ∃ r : Nat, r < n ∧ z % (n : Int) = (r : Nat) := by
  have h1 : 0 ≤ z % (n : Int) := Int.emod_nonneg _ (by omega)
  have h2 : z % (n : Int) < (n : Int) := Int.emod_lt_of_pos _ (by omega)
  exact ⟨(z % (n : Int)).toNat, by omega, by omega⟩
def spDraw (K : PySem.W.Frag) : Sp := fun vs H Q _ => ∃ (tp ca : Addr) (n : Nat), vs = [.ref tp, .int (n : Nat)] ∧ Tape K H tp ca ∧ 0 < n ∧ n ≤ 536870912 ∧ ∀ H' (r : Nat), r < n → Rn K tp ca H H' → Q (.int (r : Nat)) H'
def tCellS (K : PySem.W.Frag) : TS := fun D σ H => ∃ tp ca n c p, σ = [some (.ref tp), some (.int (n : Int)), c, p] ∧ Tape K H tp ca ∧ ∀ c' H', Tape K H' tp ca → Go tp H H' → D.nx [some (.ref tp), some (.int n), c', p] H'
theorem go_tape {K : PySem.W.Frag} {H : Hp} {tp ca : Addr} {cs : List Int} {i b s : Int} (i' b' s' : Int) (h1 : ca ≠ tp) (h2 : H tp = some (.lst (tapeL ca i b s))) (h3 : H ca = some (.lst (cs.map V.int))) (h4 : 0 ≤ i') (h5 : cs.length ≤ 1000) :
    Tape K (upd H tp (.lst (tapeL ca i' b' s'))) tp ca ∧ Go tp H (upd H tp (.lst (tapeL ca i' b' s'))) := by
  refine ⟨⟨cs, i', b', s', h1, upd_same, by rw [upd_ne h1]; exact h3, h4, h5⟩, fun x o h => ?_⟩
  by_cases z : x = tp
  · rw [z, del_same] at h
    exact nomatch h
  · rw [del_ne z] at h ⊢
    rw [upd_ne z]
    exact h
theorem ixN4 {j : Nat} (h : j < 4) : ixN 4 (j : Int) = some j := by
  unfold ixN
  rw [if_pos (by omega), if_pos (by omega)]
  rfl
section
variable {P : Program} {w : World} {K : PySem.W.Frag} {mg : Str → Option Value} {base : Heap} {C U fG : Addr}
theorem ok_draw (D : DefAt K mg "_law_draw" s_law_draw ["tape", "many"]) (T : Txt K mg) : CalX P w K mg base CX0 1 "_law_draw" ["tape", "many"] (spDraw K) := by
  refine D.ok sc_law_draw (fun vs H Q E h => ?_) (fun f cdv A outer s H vs Q E hr h => ?_)
  · obtain ⟨tp, ca, n, rfl, _⟩ := h
    rfl
  obtain ⟨tp, ca, n, rfl, hT, h0, hn, q⟩ := h
  refine ⟨_, (pss_cons (ps_conv (t' := tCellS K) (ps_if (PW.pt (pw_and (pt_cmpR op_eq (pe_ix ix_list (pv 0) pe_int (fun _ _ => rfl)) pe_int (nomark _)) (pw_and1 (pt_cmpR op_lt (pe_ix ix_list (pv 0) pe_int (fun _ _ => rfl)) (pe_callB call_len_seq (by rfl) T.len PySem.boot_len (pa_cons (pe_ix ix_list (pv 0) pe_int (fun _ _ => rfl)) pa_nil)) (nomark _)))))
      (pss_cons (ps_set (i := 2) sc_law_draw.nd rfl (.inl rfl) (pe_ix ix_list (pe_ix ix_list (pv 0) pe_int (fun _ _ => rfl)) (pe_ix ix_list (pv 0) pe_int (fun _ _ => rfl)) (fun _ _ => rfl)))
      (pss_cons (ps_augS (pv 0) pe_int pg_getL pe_int ip_add set_list)
      (pss_one (ps_if (pt_cmpR op_ge (pv 2) (pe_op op_pow pe_int pe_int) (nomark _))
        (pss_one (ps_asg (pv 2) (pg_sub (pv 0) pe_int set_list)))
        (pss_one (ps_asg (pe_op op_mod (pe_callTy call_int1 (by rfl) T.int boot_int (pa_cons (pe_op op_add (pe_op op_add (pe_op op_mul (pe_ix ix_list (pv 0) pe_int (fun _ _ => rfl)) pe_int) (pe_op op_mul (pv 2) pe_int)) pe_int) pa_nil)) pe_int) (pg_sub (pv 0) pe_int set_list))))))) pss_nil) (by
      rintro D σ H ⟨tp, ca, n, c, p, rfl, ⟨cs, i, b, s, h1, h2, h3, h4, h5⟩, k⟩
      have sx := SqL.of (K := K) h2
      have sc := SqL.of (K := K) h3
      refine ⟨_, rfl, tp, _, 2, .int b, rfl, rfl, sx, rfl, rfl, _, rfl, ?_⟩
      refine ite2 (fun _ => ?_) (fun _ => ?_)
      · refine ⟨_, rfl, tp, _, 1, .int i, rfl, rfl, sx, rfl, _, rfl, tp, _, 0, .ref ca, rfl, rfl, sx, rfl, ca, _, rfl, .inl sc, _, _, rfl, rfl, _, rfl, ?_⟩
        refine ite2 (fun c2 => ?_) (fun c2 => ?_)
        · have c2' : i < ((cs.map V.int).length : Int) := of_decide_eq_true c2
          rw [List.length_map] at c2'
          have hi : i.toNat < cs.length := by omega
          have ei : ((i.toNat : Nat) : Int) = i := by omega
          have e1 : (cs.map V.int)[i.toNat]? = some (.int (cs[i.toNat])) := by rw [List.getElem?_map, List.getElem?_eq_getElem hi]; rfl
          have e2 := atI_nat e1
          rw [ei] at e2
          generalize cs[i.toNat] = z at e2
          refine ⟨_, rfl, tp, _, 0, .ref ca, rfl, rfl, sx, rfl, _, rfl, tp, _, 1, .int i, rfl, rfl, sx, rfl, ca, _, i, .int z, rfl, rfl, sc, e2, ?_⟩
          refine ⟨_, rfl, tp, _, 1, .int i, rfl, rfl, sx, rfl, _, _, rfl, rfl, tp, _, 1, 1, rfl, rfl, h2, ixN4 (j := 1) (by decide), ?_⟩
          have g1 := go_tape (K := K) (i + 1) b s h1 h2 h3 (by omega) h5
          show _
          have u1 : (upd H tp (.lst ((tapeL ca i b s).set 1 (V.int (i + 1))))) = upd H tp (.lst (tapeL ca (i + 1) b s)) := rfl
          rw [u1]
          have k2 : (upd H tp (.lst (tapeL ca (i + 1) b s))) tp = some (.lst (tapeL ca (i + 1) b s)) := upd_same
          have k3 : (upd H tp (.lst (tapeL ca (i + 1) b s))) ca = some (.lst (cs.map V.int)) := by rw [upd_ne h1]; exact h3
          revert g1 k2 k3
          generalize upd H tp (.lst (tapeL ca (i + 1) b s)) = H1
          intro g1 k2 k3
          have sx1 := SqL.of (K := K) k2
          refine ⟨_, rfl, _, _, rfl, rfl, ⟨by decide, by decide, by decide⟩, _, _, rfl, rfl, _, rfl, ?_⟩
          refine ite2 (fun c3 => ?_) (fun c3 => ?_)
          · refine ⟨_, rfl, _, rfl, tp, _, 2, 2, rfl, rfl, k2, ixN4 (j := 2) (by decide), ?_⟩
            have g2 := go_tape (K := K) (i + 1) z s h1 k2 k3 (by omega) h5
            exact k _ _ g2.1 (g1.2.trans g2.2)
          · refine ⟨_, rfl, tp, _, 3, .int s, rfl, rfl, sx1, rfl, _, _, rfl, rfl, .inr ⟨by decide, by decide⟩, _, rfl, _, _, rfl, rfl, .inr ⟨by decide, by decide⟩, _, _, rfl, rfl, _, _, rfl, rfl, .inl ⟨_, rfl, _, _, rfl, rfl, (show (0 : Int) < 2147483587 by decide), ?_⟩⟩
            refine ⟨_, rfl, tp, _, 3, 3, rfl, rfl, k2, ixN4 (j := 3) (by decide), ?_⟩
            have g2 := go_tape (K := K) (i + 1) b ((s * 45991 + z * 6007 + 41) % 2147483587) h1 k2 k3 (by omega) h5
            exact k _ _ g2.1 (g1.2.trans g2.2)
        · exact k _ _ ⟨cs, i, b, s, h1, h2, h3, h4, h5⟩ Go.refl
      · exact k _ _ ⟨cs, i, b, s, h1, h2, h3, h4, h5⟩ Go.refl))
    (pss_cons (ps_if (pt_cmpR op_gt (pe_ix ix_list (pv 0) pe_int (fun _ _ => rfl)) pe_int (nomark _))
      (pss_cons (ps_set (i := 3) sc_law_draw.nd rfl (.inl rfl) (pe_op op_mod (pe_callTy call_int1 (by rfl) T.int boot_int (pa_cons (pe_ix ix_list (pv 0) pe_int (fun _ _ => rfl)) pa_nil)) (pv 1)))
      (pss_cons (ps_asg (pe_op op_fdiv (pe_ix ix_list (pv 0) pe_int (fun _ _ => rfl)) (pv 1)) (pg_sub (pv 0) pe_int set_list))
      (pss_one (ps_ret (pv 3))))) pss_nil)
    (pss_cons (ps_asg (pe_op op_mod (pe_callTy call_int1 (by rfl) T.int boot_int (pa_cons (pe_op op_add (pe_op op_mul (pe_ix ix_list (pv 0) pe_int (fun _ _ => rfl)) pe_int) pe_int) pa_nil)) pe_int) (pg_sub (pv 0) pe_int set_list))
    (pss_one (ps_ret (pe_op op_mod (pe_callTy call_int1 (by rfl) T.int boot_int (pa_cons (pe_op op_fdiv (pe_ix ix_list (pv 0) pe_int (fun _ _ => rfl)) pe_int) pa_nil)) (pv 1))))))), ?_⟩
  refine ⟨tp, ca, n, none, none, rfl, hT, fun c H1 hT1 g1 => ?_⟩
  obtain ⟨cs, i, b, s, h1, h2, h3, h4, h5⟩ := hT1
  have sx := SqL.of (K := K) h2
  have hn0 : (0 : Int) < (n : Nat) := by omega
  refine ⟨_, rfl, tp, _, 2, .int b, rfl, rfl, sx, rfl, _, _, rfl, rfl, _, rfl, ?_⟩
  refine ite2 (fun _ => ?_) (fun _ => ?_)
  · obtain ⟨r, r1, r2⟩ := mod_natI b h0
    refine ⟨_, rfl, tp, _, 2, .int b, rfl, rfl, sx, rfl, .inl ⟨_, rfl, _, rfl, _, _, rfl, rfl, hn0, ?_⟩⟩
    refine ⟨_, rfl, tp, _, 2, .int b, rfl, rfl, sx, rfl, _, rfl, _, _, rfl, rfl, ⟨hn0, by omega⟩, ?_⟩
    refine ⟨_, rfl, tp, _, 2, 2, rfl, rfl, h2, ixN4 (j := 2) (by decide), ?_⟩
    have g2 := go_tape (K := K) i (b / (n : Nat)) s h1 h2 h3 h4 h5
    refine ⟨_, rfl, ?_⟩
    show Q (.int (b % (n : Nat))) _
    rw [r2]
    exact q _ r r1 ⟨hT, g2.1, g1.trans g2.2⟩
  · refine ⟨_, rfl, tp, _, 3, .int s, rfl, rfl, sx, rfl, _, _, rfl, rfl, .inr ⟨by decide, by decide⟩, _, _, rfl, rfl, .inl ⟨_, rfl, _, _, rfl, rfl, (show (0 : Int) < 2147483587 by decide), ?_⟩⟩
    refine ⟨_, rfl, tp, _, 3, 3, rfl, rfl, h2, ixN4 (j := 3) (by decide), ?_⟩
    have g2 := go_tape (K := K) i b ((s * 39373 + 81023) % 2147483587) h1 h2 h3 h4 h5
    obtain ⟨r, r1, r2⟩ := mod_natI ((s * 39373 + 81023) % 2147483587 / 200) h0
    refine ⟨_, rfl, tp, _, 3, .int ((s * 39373 + 81023) % 2147483587), rfl, rfl, SqL.of upd_same, rfl, _, _, rfl, rfl, ⟨by decide, by decide⟩, .inl ⟨_, rfl, _, rfl, _, _, rfl, rfl, hn0, ?_⟩⟩
    show Q (.int ((s * 39373 + 81023) % 2147483587 / 200 % (n : Nat))) _
    rw [r2]
    exact q _ r r1 ⟨hT, g2.1, g1.trans g2.2⟩
end
/-! ### _law_tape -/
def spTape (K : PySem.W.Frag) : Sp := fun vs H Q _ => ∃ (a : Addr) (ns : List Int), vs = [.ref a] ∧ SqL K H a (ns.map V.int) ∧ ns.length ≤ 63 ∧ ∀ H' tp ca, Same H H' → Tape K H' tp ca → H tp = none → Q (.ref tp) H'
section
variable {P : Program} {w : World} {K : PySem.W.Frag} {mg : Str → Option Value} {base : Heap} {C U fG : Addr}
theorem ok_tape (D : DefAt K mg "_law_tape" s_law_tape ["script"]) (T : Txt K mg) (mabs : mg "abs" = none) : CalX P w K mg base CX0 1 "_law_tape" ["script"] (spTape K) := by
  refine D.ok sc_law_tape (fun vs H Q E h => ?_) (fun f cdv A outer s H vs Q E hr h => ?_)
  · obtain ⟨a, ns, rfl, _⟩ := h
    rfl
  obtain ⟨a, ns, rfl, ha, hl, q⟩ := h
  refine ⟨_, (pss_one (ps_ret (pe_lst (pa_cons (pe_lc (own := [("cell", 1)]) (g := gName 1) (tt := tYes) (by rfl) sc_law_tape.nd (pi_list (pv 0)) (blkOk_by (own := [("cell", 1)]) (N := N_law_tape) (sc := defScope s_law_tape) (by decide +kernel)) (fun _ _ _ _ _ => pg_name (i := 1) sc_law_tape.nd rfl (Or.inl rfl)) (fun _ _ _ _ _ => pts_nil) (fun _ _ _ _ _ => by exact (pe_op op_add (pe_op op_mul (pe_callB call_abs (by rfl) mabs (by decide +kernel) (pa_cons (pe_callTy call_int1 (by rfl) T.int boot_int (pa_cons (pv 1) pa_nil)) pa_nil)) pe_int) (pe_callTy call_int1 (by rfl) T.int boot_int (pa_cons (pe_cmpR op_lt (pv 1) pe_int (nomark _)) pa_nil))))) (pa_cons pe_int (pa_cons pe_int (pa_cons pe_int pa_nil))))))), ?_⟩
  refine ⟨_, rfl, a, rfl, ⟨_, ha⟩, fun Dl hDl => lc_list (K := K) (a := a) (xs := ns.map V.int) (fun i H' => Same H H' ∧ ∃ cs : List Int, H' Dl = some (.lst (cs.map V.int)) ∧ cs.length = i) ⟨same_new hDl, [], upd_same, rfl⟩ (fun i H' _ ⟨sm, _⟩ => sm.seq ha) ?_ ?_⟩
  · rintro i x H' hi ⟨sm, cs, hD, hcl⟩
    have hil := (List.getElem?_eq_some_iff.mp hi).1
    rw [List.length_map] at hil
    obtain ⟨c, rfl⟩ : ∃ c, x = V.int c := by
      rw [List.getElem?_map] at hi
      obtain ⟨c, _, e⟩ := Option.map_eq_some_iff.mp hi
      exact ⟨c, e.symm⟩
    refine ⟨rfl, ?_⟩
    refine ⟨_, rfl, .inl ⟨c, rfl, _, rfl, _, _, rfl, rfl, .inr ⟨by decide, by decide⟩, _, rfl, _, _, rfl, rfl, .inr ⟨_, rfl, _, _, rfl, rfl, ?_⟩⟩⟩
    refine ⟨_, hD, small1000 (by rw [List.length_map]; omega), same_mut sm hDl, cs ++ [_], by rw [upd_same, List.map_append]; rfl, by rw [List.length_append]; show cs.length + 1 = i + 1; omega⟩
  · rintro H' ⟨sm, cs, hD, hcl⟩
    rw [List.length_map] at hcl
    refine ⟨(by show 4 ≤ sizeLine; decide), fun tp htp => ?_⟩
    have hne : Dl ≠ tp := fun z => by rw [← z, hD] at htp; exact nomatch htp
    exact q _ tp Dl (sm.trans (same_new htp)) ⟨cs, 0, 0, 26203, hne, upd_same, by rw [upd_ne hne]; exact hD, by omega, by omega⟩ (sm.free htp)
end
theorem Rn.gos {K : PySem.W.Frag} {tp ca : Addr} {H H' : Hp} (r : Rn K tp ca H H') : GoS [tp] H H' := ⟨fun y u h => by
  obtain ⟨h1, h2⟩ := offS_some h
  rw [offS_ne h1]
  exact r.at h2 fun z => h1 (List.mem_singleton.mpr z), fun y h => by
  by_cases z : y = tp
  · obtain ⟨u, hu⟩ := r.b.some
    rw [z, hu]
    exact fun q => nomatch q
  · cases e : H y with
    | none => exact absurd e h
    | some u =>
      rw [r.at e z]
      exact fun q => nomatch q⟩
end K26
set_option Elab.async false
set_option linter.all false
set_option maxRecDepth 100000
set_option maxHeartbeats 8000000
namespace K26
open PySem PySem.Spec PyProof.Rows L2 Dt
/-- data of tuples and what is flat, so deep -/
def plainT : Nat → PyData → Prop
  | 0, _ => False
  | _ + 1, .list _ => False
  | _ + 1, .dict _ => False
  | n + 1, .tuple ds => ds.length ≤ 1000000 ∧ ∀ d ∈ ds, plainT n d
  | _ + 1, .none => True
  | _ + 1, .bool _ => True
  | _ + 1, .int _ => True
  | _ + 1, .str _ => True
def spSame (K : PySem.W.Frag) (n : Nat) : Sp := fun vs H Q _ => ∃ (x y : V) (d : PyData), vs = [x, y] ∧ Dp K H x d ∧ Dp K H y d ∧ plainT n d ∧ ∀ H', Same H H' → Q (.bl true) H'
theorem dps_pair {K : PySem.W.Frag} {H : Hp} {xs ys : List V} {ds : List PyData} (hx : DpAll K H xs ds) (hy : DpAll K H ys ds) {i : Nat} (h : i < ds.length) : ∃ v1 v2 d, xs[i]? = some v1 ∧ ys[i]? = some v2 ∧ ds[i]? = some d ∧ Dp K H v1 d ∧ Dp K H v2 d := by
  have l1 := dps_len hx
  have l2 := dps_len hy
  have e1 : xs[i]? = some (xs[i]'(by omega)) := List.getElem?_eq_getElem (by omega)
  have e2 : ys[i]? = some (ys[i]'(by omega)) := List.getElem?_eq_getElem (by omega)
  obtain ⟨d1, f1, g1⟩ := dps_at hx e1
  obtain ⟨d2, f2, g2⟩ := dps_at hy e2
  rw [f1] at f2
  obtain rfl := Option.some.inj f2
  exact ⟨_, _, d1, e1, e2, f1, g1, g2⟩
section
variable {P : Program} {w : World} {K : PySem.W.Frag} {mg : Str → Option Value} {base : Heap} {C U fG : Addr}
theorem ok_same_step {n : Nat} (D : DefAt K mg "_law_same" s_law_same ["one", "other"]) (T : Txt K mg) (GSame : CalX P w K mg base CX0 n "_law_same" ["one", "other"] (spSame K n)) : CalX P w K mg base CX0 (n + 1) "_law_same" ["one", "other"] (spSame K (n + 1)) := by
  refine D.ok sc_law_same (fun vs H Q E h => ?_) (fun f cdv A outer s H vs Q E hr h => ?_)
  · obtain ⟨x, y, d, rfl, _⟩ := h
    rfl
  obtain ⟨x, y, d, rfl, hx, hy, hp, q⟩ := h
  refine ⟨_, (pss_cons (ps_if (PW.pt (pw_or (pt_cmpR op_isN (pv 0) pe_non (nomark _)) (pw_or1 (pt_cmpR op_isN (pv 1) pe_non (nomark _))))) 
      (pss_one (ps_ret (pe_and (pe_cmpR op_isN (pv 0) pe_non (nomark _)) (pe_one (pe_cmpR op_isN (pv 1) pe_non (nomark _)))))) pss_nil) 
    (pss_cons (ps_if (PW.pt (pw_or (pt_val (pe_callB call_isi (by rfl) T.isinstance boot_isinstance (pa_cons (pv 0) (pa_cons (pe_bltn (v := .ty "bool") (by rfl) T.bool (by decide +kernel) rfl) pa_nil)))) (pw_or1 (pt_val (pe_callB call_isi (by rfl) T.isinstance boot_isinstance (pa_cons (pv 1) (pa_cons (pe_bltn (v := .ty "bool") (by rfl) T.bool (by decide +kernel) rfl) pa_nil))))))) 
      (pss_one (ps_ret (pe_and (pe_callB call_isi (by rfl) T.isinstance boot_isinstance (pa_cons (pv 0) (pa_cons (pe_bltn (v := .ty "bool") (by rfl) T.bool (by decide +kernel) rfl) pa_nil))) (pe_and (pe_callB call_isi (by rfl) T.isinstance boot_isinstance (pa_cons (pv 1) (pa_cons (pe_bltn (v := .ty "bool") (by rfl) T.bool (by decide +kernel) rfl) pa_nil))) (pe_one (pe_cmpR op_eq (pv 0) (pv 1) (nomark _))))))) pss_nil) 
    (pss_cons (ps_if (PW.pt (pw_or (pt_val (pe_callB call_isi (by rfl) T.isinstance boot_isinstance (pa_cons (pv 0) (pa_cons (pe_bltn (v := .ty "int") (by rfl) T.int boot_int rfl) pa_nil)))) (pw_or1 (pt_val (pe_callB call_isi (by rfl) T.isinstance boot_isinstance (pa_cons (pv 1) (pa_cons (pe_bltn (v := .ty "int") (by rfl) T.int boot_int rfl) pa_nil))))))) 
      (pss_one (ps_ret (pe_and (pe_callB call_isi (by rfl) T.isinstance boot_isinstance (pa_cons (pv 0) (pa_cons (pe_bltn (v := .ty "int") (by rfl) T.int boot_int rfl) pa_nil))) (pe_and (pe_callB call_isi (by rfl) T.isinstance boot_isinstance (pa_cons (pv 1) (pa_cons (pe_bltn (v := .ty "int") (by rfl) T.int boot_int rfl) pa_nil))) (pe_one (pe_cmpR op_eq (pv 0) (pv 1) (nomark _))))))) pss_nil) 
    (pss_cons (ps_if (PW.pt (pw_or (pt_val (pe_callB call_isi (by rfl) T.isinstance boot_isinstance (pa_cons (pv 0) (pa_cons (pe_bltn (v := .ty "str") (by rfl) T.str (by decide +kernel) rfl) pa_nil)))) (pw_or1 (pt_val (pe_callB call_isi (by rfl) T.isinstance boot_isinstance (pa_cons (pv 1) (pa_cons (pe_bltn (v := .ty "str") (by rfl) T.str (by decide +kernel) rfl) pa_nil))))))) 
      (pss_one (ps_ret (pe_and (pe_callB call_isi (by rfl) T.isinstance boot_isinstance (pa_cons (pv 0) (pa_cons (pe_bltn (v := .ty "str") (by rfl) T.str (by decide +kernel) rfl) pa_nil))) (pe_and (pe_callB call_isi (by rfl) T.isinstance boot_isinstance (pa_cons (pv 1) (pa_cons (pe_bltn (v := .ty "str") (by rfl) T.str (by decide +kernel) rfl) pa_nil))) (pe_one (pe_cmpR op_eq (pv 0) (pv 1) (nomark _))))))) pss_nil) 
    (pss_cons (ps_if (PW.pt (pw_or (pt_not (pt_val (pe_callB call_isi (by rfl) T.isinstance boot_isinstance (pa_cons (pv 0) (pa_cons (pe_bltn (v := .ty "tuple") (by rfl) T.tuple PyProof.Rows.boot_tuple rfl) pa_nil))))) (pw_or (pt_not (pt_val (pe_callB call_isi (by rfl) T.isinstance boot_isinstance (pa_cons (pv 1) (pa_cons (pe_bltn (v := .ty "tuple") (by rfl) T.tuple PyProof.Rows.boot_tuple rfl) pa_nil))))) (pw_or1 (pt_cmpR op_ne (pe_callB call_len_seq (by rfl) T.len PySem.boot_len (pa_cons (pv 0) pa_nil)) (pe_callB call_len_seq (by rfl) T.len PySem.boot_len (pa_cons (pv 1) pa_nil)) (nomark _)))))) 
      (pss_one (ps_ret pe_bl)) pss_nil) 
    (pss_cons (ps_for PassesOwn.never rfl (pi_range1 (by rfl) T.range (pa_cons (pe_callB call_len_seq (by rfl) T.len PySem.boot_len (pa_cons (pv 0) pa_nil)) pa_nil)) (pg_name (i := 2) sc_law_same.nd rfl (Or.inl rfl)) 
      (pss_one (ps_if (pt_not (pt_val (pe_c0 GSame hr (Nat.le_refl _) rfl (pa_cons (pe_ix ix_seq (pv 0) (pv 2) (fun _ _ => rfl)) (pa_cons (pe_ix ix_seq (pv 1) (pv 2) (fun _ _ => rfl)) pa_nil))))) 
        (pss_one (ps_ret pe_bl)) pss_nil))) 
    (pss_one (ps_ret pe_bl)))))))), ?_⟩
  have kx := kind_dp hx
  have ky := kind_dp hy
  have sH : Same H H := fun _ _ z => z
  cases hx with
  | non =>
    cases hy
    refine ⟨_, rfl, rfl, _, rfl, ?_⟩
    refine iteT (iteT ?_)
    refine ⟨_, rfl, rfl, _, rfl, ?_⟩
    refine iteT ?_
    exact ⟨_, rfl, rfl, q H sH⟩
  | bl b =>
    cases hy
    refine ⟨_, rfl, rfl, _, rfl, ?_⟩
    refine iteF ?_
    refine ⟨_, rfl, rfl, _, rfl, ?_⟩
    refine iteF ?_
    refine isi_read rfl kx.1 (kit_bool kx.2) ⟨_, rfl, ?_⟩
    refine iteT (iteT ?_)
    refine isi_read rfl kx.1 (kit_bool kx.2) ⟨_, rfl, ?_⟩
    refine iteT ?_
    refine isi_read rfl ky.1 (kit_bool ky.2) ⟨_, rfl, ?_⟩
    refine iteT ?_
    refine ⟨_, rfl, _, rfl, rfl, ?_⟩
    have e : (decide (V.bl b = V.bl b)) = true := decide_eq_true rfl
    rw [e]
    exact q H sH
  | int i =>
    cases hy
    refine ⟨_, rfl, rfl, _, rfl, ?_⟩
    refine iteF ?_
    refine ⟨_, rfl, rfl, _, rfl, ?_⟩
    refine iteF ?_
    refine isi_read rfl kx.1 (kit_bool kx.2) ⟨_, rfl, ?_⟩
    refine iteF ?_
    refine isi_read rfl ky.1 (kit_bool ky.2) ⟨_, rfl, ?_⟩
    refine iteF ?_
    refine isi_read rfl kx.1 (kit_int kx.2) ⟨_, rfl, ?_⟩
    refine iteT (iteT ?_)
    refine isi_read rfl kx.1 (kit_int kx.2) ⟨_, rfl, ?_⟩
    refine iteT ?_
    refine isi_read rfl ky.1 (kit_int ky.2) ⟨_, rfl, ?_⟩
    refine iteT ?_
    refine ⟨_, rfl, _, rfl, rfl, ?_⟩
    have e : (decide (V.int i = V.int i)) = true := decide_eq_true rfl
    rw [e]
    exact q H sH
  | str z =>
    cases hy
    refine ⟨_, rfl, rfl, _, rfl, ?_⟩
    refine iteF ?_
    refine ⟨_, rfl, rfl, _, rfl, ?_⟩
    refine iteF ?_
    refine isi_read rfl kx.1 (kit_bool kx.2) ⟨_, rfl, ?_⟩
    refine iteF ?_
    refine isi_read rfl ky.1 (kit_bool ky.2) ⟨_, rfl, ?_⟩
    refine iteF ?_
    refine isi_read rfl kx.1 (kit_int kx.2) ⟨_, rfl, ?_⟩
    refine iteF ?_
    refine isi_read rfl ky.1 (kit_int ky.2) ⟨_, rfl, ?_⟩
    refine iteF ?_
    refine isi_read rfl kx.1 (kit_str kx.2) ⟨_, rfl, ?_⟩
    refine iteT (iteT ?_)
    refine isi_read rfl kx.1 (kit_str kx.2) ⟨_, rfl, ?_⟩
    refine iteT ?_
    refine isi_read rfl ky.1 (kit_str ky.2) ⟨_, rfl, ?_⟩
    refine iteT ?_
    refine ⟨_, rfl, _, rfl, rfl, ?_⟩
    have e : (decide (V.str z = V.str z)) = true := decide_eq_true rfl
    rw [e]
    exact q H sH
  | @lst a xs ds hsx hax =>
    exact absurd hp (by cases n <;> exact fun h => h)
  | @tup a xs ds hsx hax =>
    cases hy with
    | @tup b ys _ hsy hay =>
    obtain ⟨hp1, hp2⟩ := hp
    have l1 := dps_len hax
    have l2 := dps_len hay
    have hsl := sizeLine_eq
    refine ⟨_, rfl, rfl, _, rfl, ?_⟩
    refine iteF ?_
    refine ⟨_, rfl, rfl, _, rfl, ?_⟩
    refine iteF ?_
    refine isi_read rfl kx.1 (kit_bool kx.2) ⟨_, rfl, ?_⟩
    refine iteF ?_
    refine isi_read rfl ky.1 (kit_bool ky.2) ⟨_, rfl, ?_⟩
    refine iteF ?_
    refine isi_read rfl kx.1 (kit_int kx.2) ⟨_, rfl, ?_⟩
    refine iteF ?_
    refine isi_read rfl ky.1 (kit_int ky.2) ⟨_, rfl, ?_⟩
    refine iteF ?_
    refine isi_read rfl kx.1 (kit_str kx.2) ⟨_, rfl, ?_⟩
    refine iteF ?_
    refine isi_read rfl ky.1 (kit_str ky.2) ⟨_, rfl, ?_⟩
    refine iteF ?_
    refine isi_read rfl kx.1 (kit_tup kx.2) ⟨_, rfl, ?_⟩
    refine iteF ?_
    refine isi_read rfl ky.1 (kit_tup ky.2) ⟨_, rfl, ?_⟩
    refine iteF ?_
    have s1 : Same H H := fun _ _ z => z
    refine ⟨_, rfl, a, xs, rfl, .inr (same_sqt s1 hsx), _, rfl, b, ys, rfl, .inr (same_sqt s1 hsy), rfl, _, rfl, ?_⟩
    rw [l1, l2]
    have e : (decide (V.int (ds.length : Nat) = V.int (ds.length : Nat))) = true := decide_eq_true rfl
    rw [e]
    refine iteF ?_
    refine ⟨_, rfl, a, xs, rfl, .inr (same_sqt s1 hsx), ?_⟩
    rw [l1]
    refine ⟨_, rfl, by omega, by omega, for_range (lo := 0) (n := ds.length) (fun i σ H' => ∃ o2, σ = [some (.ref a), some (.ref b), o2] ∧ Same H H') ⟨none, rfl, s1⟩ ?_ ?_⟩
    · rintro i σ H' hi ⟨o2, rfl, sm⟩
      obtain ⟨v1, v2, d, e1, e2, e3, g1, g2⟩ := dps_pair hax hay hi
      refine ⟨_, rfl, _, rfl, .inr (.inl ⟨a, xs, _, _, rfl, rfl, same_sqt sm hsx, (by rw [Int.zero_add]; exact atI_nat e1), _, rfl, _, rfl, .inr (.inl ⟨b, ys, _, _, rfl, rfl, same_sqt sm hsy, (by rw [Int.zero_add]; exact atI_nat e2), v1, v2, d, rfl, dp_same sm g1, dp_same sm g2, hp2 _ (List.mem_of_getElem? e3), fun H2 sm2 => ⟨_, rfl, ?_⟩⟩)⟩)⟩
      refine iteF ?_
      exact ⟨_, rfl, sm.trans sm2⟩
    · rintro σ H' ⟨o2, rfl, sm⟩
      exact q H' sm
theorem ok_same (D : DefAt K mg "_law_same" s_law_same ["one", "other"]) (T : Txt K mg) : ∀ n : Nat, CalX P w K mg base CX0 n "_law_same" ["one", "other"] (spSame K n)
  | 0 => by
    obtain ⟨f, fd, F, m, b⟩ := D.ex
    have no : ∀ vs H Q E, ¬ spSame K 0 vs H Q E := fun vs H Q E h => by
      obtain ⟨x, y, d, _, _, _, h, _⟩ := h
      exact h
    exact ⟨f, fd, ⟨fun vs H Q E h => absurd h (no vs H Q E), fun A outer s H args us vs Q E _ _ _ _ h => absurd h (no vs H Q E)⟩, m, F.kp, b, fun_lk F⟩
  | n + 1 => ok_same_step D T (ok_same D T n)
end
end K26
set_option Elab.async false
set_option linter.all false
set_option maxRecDepth 100000
set_option maxHeartbeats 4000000
namespace K26
open PySem PySem.Spec PyProof.Rows L2 Dt
/-! ### written data -/
def DpFs (K : PySem.W.Frag) (H H' : Hp) (vs : List V) (ds : List PyData) : Prop := ∀ H2, (∀ b u, H b = none → H' b = some u → H2 b = some u) → DpAll K H2 vs ds
def DV (K : PySem.W.Frag) (t : TE) (σ : L2.St) (d : PyData) : Prop := ∀ (H : Hp) (Q : VK), (∀ v H', Same H H' → DpF K H H' v d → Q v H') → t σ H Q
def DVs (K : PySem.W.Frag) (t : TA) (σ : L2.St) (ds : List PyData) : Prop := ∀ (H : Hp) (Q : List V → Hp → Prop), (∀ vs H', Same H H' → DpFs K H H' vs ds → Q vs H') → t σ H Q
section
variable {K : PySem.W.Frag} {σ : L2.St}
theorem same_refl {H : Hp} : Same H H := fun _ _ h => h
theorem dvs_nil : DVs K tNil σ [] := fun H Q q => q [] H same_refl fun _ _ => .nil
theorem dvs_cons {te : TE} {ta : TA} {d : PyData} {ds : List PyData} (h : DV K te σ d) (hs : DVs K ta σ ds) : DVs K (tCons te ta) σ (d :: ds) := fun H Q q =>
  h H _ fun v H1 s1 f1 => hs H1 _ fun vs H2 s2 f2 => q (v :: vs) H2 (s1.trans s2) fun H3 hk =>
    .cons (f1 H3 fun b u a1 a2 => hk b u a1 (s2 _ _ a2)) (f2 H3 fun b u a1 a2 => hk b u (s1.free a1) a2)
theorem dv_int {i : Int} : DV K (tC (.int i)) σ (.int i) := fun H Q q => q _ H same_refl fun _ _ => .int i
theorem dv_bl {b : Bool} : DV K (tC (.bl b)) σ (.bool b) := fun H Q q => q _ H same_refl fun _ _ => .bl b
theorem dv_non : DV K (tC .non) σ .none := fun H Q q => q _ H same_refl fun _ _ => .non
theorem dv_str {z : Str} : DV K (tC (.str z)) σ (.str z) := fun H Q q => q _ H same_refl fun _ _ => .str z
theorem dv_vint {k : Nat} {i : Int} (h : σ[k]? = some (some (.int i))) : DV K (tVar k) σ (.int i) := fun H Q q => ⟨_, h, q _ H same_refl fun _ _ => .int i⟩
theorem dv_neg {te : TE} {i j : Int} (h : ∀ H Q, Q (.int i) H → te σ H Q) (e : -i = j) : DV K (tUn (rU fun i => .int (-i)) te) σ (.int j) := fun H Q q => h H _ ⟨i, rfl, by
  show Q (.int (-i)) H
  rw [e]
  exact q _ H same_refl fun _ _ => .int j⟩
theorem dv_sub {te tf : TE} {i k j : Int} (h : ∀ H Q, Q (.int i) H → te σ H Q) (h' : ∀ H Q, Q (.int k) H → tf σ H Q) (e : i - k = j) : DV K (tOp (rI0 fun i j => .int (i - j)) te tf) σ (.int j) := fun H Q q => h H _ (h' H _ ⟨i, k, rfl, rfl, by
  show Q (.int (i - k)) H
  rw [e]
  exact q _ H same_refl fun _ _ => .int j⟩)
theorem dv_tup {ta : TA} {ds : List PyData} (h : DVs K ta σ ds) (hl : ds.length ≤ 1000) : DV K (tTup ta) σ (.tuple ds) := fun H Q q => h H _ fun vs H1 s1 f1 => by
  have hl1 := dps_len (f1 H1 fun _ _ _ e => e)
  have hsl := sizeLine_eq
  refine ⟨by omega, fun p hp => q _ _ (s1.trans (same_new hp)) fun H2 hk => .tup (SqT.of (hk p _ (s1.free hp) upd_same)) (f1 H2 fun b u a1 a2 => hk b u a1 ((same_new hp : Same H1 _) _ _ a2))⟩
theorem dv_lst {ta : TA} {ds : List PyData} (h : DVs K ta σ ds) (hl : ds.length ≤ 1000) : DV K (tLst ta) σ (.list ds) := fun H Q q => h H _ fun vs H1 s1 f1 => by
  have hl1 := dps_len (f1 H1 fun _ _ _ e => e)
  have hsl := sizeLine_eq
  refine ⟨by omega, fun p hp => q _ _ (s1.trans (same_new hp)) fun H2 hk => .lst (SqL.of (hk p _ (s1.free hp) upd_same)) (f1 H2 fun b u a1 a2 => hk b u a1 ((same_new hp : Same H1 _) _ _ a2))⟩
end
/-- a written menu -/
def tMenu (K : PySem.W.Frag) (C : L2.St → Prop) (ds : List PyData) : TE := fun σ H Q => C σ ∧ ∀ p vs H', Same H H' → H p = none → H' p = some (.tup vs) → DpFs K H H' vs ds → Q (.ref p) H'
theorem dv_menu {K : PySem.W.Frag} {ta : TA} {σ : L2.St} {ds : List PyData} {H : Hp} {Q : VK} (h : DVs K ta σ ds) (hl : ds.length ≤ 1000) (q : ∀ p vs H', Same H H' → H p = none → H' p = some (.tup vs) → DpFs K H H' vs ds → Q (.ref p) H') : tTup ta σ H Q := h H _ fun vs H1 s1 f1 => by
  have hl1 := dps_len (f1 H1 fun _ _ _ e => e)
  have hsl := sizeLine_eq
  exact ⟨by omega, fun p hp => q p vs _ (s1.trans (same_new hp)) (s1.free hp) upd_same fun H2 hk => f1 H2 fun b u a1 a2 => hk b u a1 ((same_new hp : Same H1 _) _ _ a2)⟩
/-! ### an item of a menu -/
theorem DpF.rn {K : PySem.W.Frag} {H H1 H2 : Hp} {tp ca : Addr} {v : V} {d : PyData} (f : DpF K H H1 v d) (t : Tape K H tp ca) (r : Rn K tp ca H1 H2) : DpF K H H2 v d := fun H3 hk => f H3 fun b u h1 h2 => hk b u h1 (r.at h2 (t.new h1))
theorem DpF.same {K : PySem.W.Frag} {H H1 H2 : Hp} {v : V} {d : PyData} (f : DpF K H H1 v d) (s : Same H1 H2) : DpF K H H2 v d := fun H3 hk => f H3 fun b u h1 h2 => hk b u h1 (s _ _ h2)
def rLenQ (K : PySem.W.Frag) : List V → Hp → VK → Prop := fun xs H Q => ∃ p ys, xs = [.ref p] ∧ (SqL K H p ys ∨ SqT K H p ys) ∧ Q (.int ys.length) H
theorem menu_read {K : PySem.W.Frag} {σ : L2.St} {H0 H : Hp} {tp ca p : Addr} {i0 im : Nat} {vs : List V} {ds : List PyData} {Q : VK} {r : List V → Hp → VK → Prop} (hr : r = rLenQ K) (h0 : σ[i0]? = some (some (.ref tp))) (hm : σ[im]? = some (some (.ref p))) (hp : H p = some (.tup vs)) (hd : DpFs K H0 H vs ds) (hT0 : Tape K H0 tp ca) (hT : Tape K H tp ca) (hpn : H0 p = none) (hl : 0 < ds.length) (hl2 : ds.length ≤ 1000)
    (q : ∀ H' v d, Rn K tp ca H H' → d ∈ ds → DpF K H0 H' v d → Q v H') : tOp (rIxT K) (tVar im) (tCall (spDraw K) [] E0 (tCons (tVar i0) (tCons (tCB r (tCons (tVar im) tNil)) tNil))) σ H Q := by
  subst hr
  have hlen := dps_len (hd H fun _ _ _ e => e)
  refine ⟨_, hm, _, h0, _, hm, p, vs, rfl, .inr (SqT.of hp), tp, ca, vs.length, rfl, hT, by omega, by omega, fun H1 r hr R1 => ?_⟩
  have hx : vs[r]? = some vs[r] := List.getElem?_eq_getElem hr
  have hdr : ds[r]? = some (ds[r]'(by omega)) := List.getElem?_eq_getElem (by omega)
  refine ⟨p, vs, _, _, rfl, rfl, SqT.of (R1.at hp (hT0.new hpn)), atI_nat hx, q H1 _ _ R1 (List.mem_of_getElem? hdr) fun H3 hk => ?_⟩
  obtain ⟨d, hd1, hd2⟩ := dps_at (hd H3 fun b u h1 h2 => hk b u h1 (R1.at h2 (hT0.new h1))) hx
  rw [hdr] at hd1
  rw [Option.some.inj hd1]
  exact hd2
/-! ### powers of two -/
theorem shl_of {k n : Int} (hk : 0 ≤ k ∧ k ≤ 1000000) (e : (1 : Int) * 2 ^ k.toNat = n) : ∀ (σ : L2.St) (H : Hp) (Q : VK), tC (.int n) σ H Q → tOp (rI CPow fun i j => .int (i * 2 ^ j.toNat)) (tC (.int 1)) (tC (.int k)) σ H Q := by
  rintro σ H Q q
  refine ⟨1, k, rfl, rfl, ⟨hk.1, hk.2, by decide⟩, ?_⟩
  show Q (.int ((1 : Int) * 2 ^ k.toNat)) H
  rw [e]
  exact q
def edgeI : Int := 1606938044258990275541962092341162602522202993782792835301375
/-! ### plain data, by a test -/
def plainB : Nat → PyData → Bool
  | 0, _ => false
  | _ + 1, .none => true
  | _ + 1, .bool _ => true
  | _ + 1, .int _ => true
  | _ + 1, .str _ => true
  | n + 1, .tuple ds => decide (ds.length ≤ 1000) && ds.all (plainB n)
  | n + 1, .list ds => decide (ds.length ≤ 1000) && ds.all (plainB n)
  | _, _ => false
theorem plainB_ok : ∀ (n : Nat) (d : PyData), plainB n d = true → plainN n d
  | 0, d, h => by cases d <;> exact nomatch h
  | n + 1, d, h => by
    cases d with
    | none => trivial
    | bool _ => trivial
    | int _ => trivial
    | str _ => trivial
    | tuple ds =>
      have h' : (decide (ds.length ≤ 1000) && ds.all (plainB n)) = true := h
      rw [Bool.and_eq_true, List.all_eq_true] at h'
      exact ⟨of_decide_eq_true h'.1, fun d hd => plainB_ok n d (h'.2 d hd)⟩
    | list ds =>
      have h' : (decide (ds.length ≤ 1000) && ds.all (plainB n)) = true := h
      rw [Bool.and_eq_true, List.all_eq_true] at h'
      exact ⟨of_decide_eq_true h'.1, fun d hd => plainB_ok n d (h'.2 d hd)⟩
    | dict _ => exact nomatch h
theorem plainN_mono : ∀ (n m : Nat) (d : PyData), n ≤ m → plainN n d → plainN m d
  | 0, _, d, _, h => by cases d <;> exact False.elim h
  | n + 1, 0, d, h, _ => by omega
  | n + 1, m + 1, d, hm, h => by
    cases d with
    | none => trivial
    | bool _ => trivial
    | int _ => trivial
    | str _ => trivial
    | tuple ds => exact ⟨h.1, fun d hd => plainN_mono n m d (by omega) (h.2 d hd)⟩
    | list ds => exact ⟨h.1, fun d hd => plainN_mono n m d (by omega) (h.2 d hd)⟩
    | dict _ => exact False.elim h
def GoD (S : List Addr) (H H' : Hp) : Prop := Same (offS S H) (offS S H')
theorem GoD.refl {S : List Addr} {H : Hp} : GoD S H H := fun _ _ h => h
theorem GoD.trans {S : List Addr} {H H1 H2 : Hp} (a : GoD S H H1) (b : GoD S H1 H2) : GoD S H H2 := fun x o h => b x o (a x o h)
theorem GoD.of {S : List Addr} {H H' : Hp} (e : Same H H') : GoD S H H' := fun x o h => by
  obtain ⟨h1, h2⟩ := offS_some h
  rw [offS_ne h1]
  exact e x o h2
theorem GoD.rn {K : PySem.W.Frag} {S : List Addr} {tp ca : Addr} {H H' : Hp} (r : Rn K tp ca H H') (h : tp ∈ S) : GoD S H H' := fun x o e => by
  obtain ⟨h1, h2⟩ := offS_some e
  rw [offS_ne h1]
  exact r.at h2 fun z => h1 (by rw [z]; exact h)
theorem GoD.upd {S : List Addr} {H H' : Hp} {p : Addr} {o : HO} (g : GoD S H H') (h : p ∈ S) : GoD S H (L2.upd H' p o) := fun x u e => by
  obtain ⟨h1, h2⟩ := offS_some (g x u e)
  rw [offS_ne h1, upd_ne (fun z => h1 (by rw [z]; exact h))]
  exact h2
theorem DpF.offS {K : PySem.W.Frag} {S : List Addr} {H H' : Hp} {v : V} {d : PyData} (f : DpF K H H' v d) (h : ∀ a ∈ S, H a ≠ none) : Dp K (K26.offS S H') v d := f _ fun b u h1 h2 => by
  rw [offS_ne (fun z => h b z h1)]
  exact h2
theorem dp_onS {K : PySem.W.Frag} {S : List Addr} {H : Hp} {v : V} {d : PyData} (h : Dp K (offS S H) v d) : Dp K H v d := dp_same offS_same h
theorem cut_take (xs : List V) (k : Nat) : cutV xs none (some (k : Int)) = xs.take k := by
  unfold cutV
  rw [HT.sIx_none, HT.sIx_nat]
  show (xs.drop 0).take (min k xs.length - 0) = _
  rw [List.drop_zero, Nat.sub_zero]
  by_cases h : k ≤ xs.length
  · rw [Nat.min_eq_left h]
  · rw [Nat.min_eq_right (by omega), List.take_length, List.take_of_length_le (by omega)]
theorem dps_take {K : PySem.W.Frag} {H : Hp} : ∀ {vs : List V} {ds : List PyData} (n : Nat), DpAll K H vs ds → DpAll K H (vs.take n) (ds.take n)
  | _, _, 0, _ => by rw [List.take_zero, List.take_zero]; exact .nil
  | _, _, n + 1, .nil => .nil
  | _, _, n + 1, .cons h q => .cons h (dps_take n q)
theorem dps_drop {K : PySem.W.Frag} {H : Hp} : ∀ {vs : List V} {ds : List PyData} (n : Nat), DpAll K H vs ds → DpAll K H (vs.drop n) (ds.drop n)
  | _, _, 0, h => h
  | _, _, n + 1, .nil => .nil
  | _, _, n + 1, .cons h q => dps_drop n q
/-! ### expressions whose values are data -/
def InD (S : List Addr) (H : Hp) : Prop := ∀ a ∈ S, H a ≠ none
theorem InD.same {S : List Addr} {H H' : Hp} (h : InD S H) (s : Same H H') : InD S H' := fun a ha e => h a ha (s.free e)
theorem InD.new {S : List Addr} {H : Hp} {p : Addr} (h : InD S H) (hp : H p = none) : p ∉ S := fun z => h p z hp
theorem InD.rn {K : PySem.W.Frag} {S : List Addr} {tp ca : Addr} {H H' : Hp} (h : InD S H) (r : Rn K tp ca H H') : InD S H' := fun a ha e => h a ha (r.free e)
theorem Tape.inD {K : PySem.W.Frag} {H : Hp} {tp ca : Addr} (t : Tape K H tp ca) : InD [tp] H := fun a ha => by
  obtain rfl := List.mem_singleton.mp ha
  obtain ⟨u, e⟩ := t.some
  rw [e]
  simp
theorem off_del {tp : Addr} {H : Hp} : offS [tp] H = del H tp := by
  funext b
  unfold offS del
  simp
def PV (K : PySem.W.Frag) (S : List Addr) (te : TE) (σ : L2.St) (H : Hp) (d : PyData) : Prop := ∀ H1, Same H H1 → ∀ Q : VK, (∀ v H2, Same H1 H2 → Dp K (offS S H2) v d → Q v H2) → te σ H1 Q
def PVs (K : PySem.W.Frag) (S : List Addr) (ta : TA) (σ : L2.St) (H : Hp) (ds : List PyData) : Prop := ∀ H1, Same H H1 → ∀ Q : List V → Hp → Prop, (∀ vs H2, Same H1 H2 → DpAll K (offS S H2) vs ds → Q vs H2) → ta σ H1 Q
/-- a number that is found without a change -/
def PN (te : TE) (σ : L2.St) (k : Int) : Prop := ∀ H Q, Q (.int k) H → te σ H Q
section
variable {K : PySem.W.Frag} {S : List Addr} {σ : L2.St} {H : Hp} {te tf : TE} {ta : TA} {d : PyData} {ds es : List PyData}
theorem pv_use {Q : VK} (h : PV K S te σ H d) (q : ∀ v H', Same H H' → Dp K (offS S H') v d → Q v H') : te σ H Q := h H same_refl Q q
theorem pn_c {k : Int} : PN (tC (.int k)) σ k := fun _ _ q => q
theorem pn_v {i : Nat} {k : Int} (h : σ[i]? = some (some (.int k))) : PN (tVar i) σ k := fun _ _ q => ⟨_, h, q⟩
theorem pn_add {k m : Int} (a : PN te σ k) (b : PN tf σ m) : PN (tOp (rI0 fun i j => .int (i + j)) te tf) σ (k + m) := fun H Q q => a H _ (b H _ ⟨k, m, rfl, rfl, q⟩)
theorem pn_sub {k m : Int} (a : PN te σ k) (b : PN tf σ m) : PN (tOp (rI0 fun i j => .int (i - j)) te tf) σ (k - m) := fun H Q q => a H _ (b H _ ⟨k, m, rfl, rfl, q⟩)
theorem pn_neg {k : Int} (a : PN te σ k) : PN (tUn (rU fun i => .int (-i)) te) σ (-k) := fun H Q q => a H _ ⟨k, rfl, q⟩
theorem pv_var {i : Nat} {v : V} (h : σ[i]? = some (some v)) (hd : Dp K (offS S H) v d) : PV K S (tVar i) σ H d := fun H1 s Q q => ⟨v, h, q v H1 same_refl (dp_same (GoD.of s) hd)⟩
theorem pv_n {k : Int} (h : PN te σ k) : PV K S te σ H (.int k) := fun H1 s Q q => h H1 Q (q _ H1 same_refl (.int k))
theorem pv_int {i : Int} : PV K S (tC (.int i)) σ H (.int i) := fun H1 s Q q => q _ H1 same_refl (.int i)
theorem pv_bl {b : Bool} : PV K S (tC (.bl b)) σ H (.bool b) := fun H1 s Q q => q _ H1 same_refl (.bl b)
theorem pv_non : PV K S (tC .non) σ H .none := fun H1 s Q q => q _ H1 same_refl .non
theorem pv_str {z : Str} : PV K S (tC (.str z)) σ H (.str z) := fun H1 s Q q => q _ H1 same_refl (.str z)
theorem pvs_nil : PVs K S tNil σ H [] := fun H1 s Q q => q [] H1 same_refl .nil
theorem pvs_cons (h : PV K S te σ H d) (hs : PVs K S ta σ H ds) : PVs K S (tCons te ta) σ H (d :: ds) := fun H1 s Q q => h H1 s _ fun v H2 s2 h2 => hs H2 (s.trans s2) _ fun vs H3 s3 h3 => q (v :: vs) H3 (s2.trans s3) (.cons (dp_same (GoD.of s3) h2) h3)
theorem sqt_offS {H : Hp} {p : Addr} {xs : List V} (h : H p = some (.tup xs)) (n : p ∉ S) : SqT K (offS S H) p xs := SqT.of (by rw [offS_ne n]; exact h)
theorem sql_offS {H : Hp} {p : Addr} {xs : List V} (h : H p = some (.lst xs)) (n : p ∉ S) : SqL K (offS S H) p xs := SqL.of (by rw [offS_ne n]; exact h)
theorem pv_tup (hS : InD S H) (h : PVs K S ta σ H ds) (hl : ds.length ≤ 1000) : PV K S (tTup ta) σ H (.tuple ds) := fun H1 s Q q => h H1 s _ fun vs H2 s2 h2 => by
  have hl1 := dps_len h2
  have hsl := sizeLine_eq
  exact ⟨by omega, fun p hp => q _ _ (s2.trans (same_new hp)) (.tup (sqt_offS upd_same (((hS.same s).same s2).new hp)) (dps_same (GoD.of (same_new hp)) h2))⟩
theorem pv_lst (hS : InD S H) (h : PVs K S ta σ H ds) (hl : ds.length ≤ 1000) : PV K S (tLst ta) σ H (.list ds) := fun H1 s Q q => h H1 s _ fun vs H2 s2 h2 => by
  have hl1 := dps_len h2
  have hsl := sizeLine_eq
  exact ⟨by omega, fun p hp => q _ _ (s2.trans (same_new hp)) (.lst (sql_offS upd_same (((hS.same s).same s2).new hp)) (dps_same (GoD.of (same_new hp)) h2))⟩
theorem pv_cat (hS : InD S H) (ha : PV K S te σ H (.tuple ds)) (hb : PV K S tf σ H (.tuple es)) (hl : ds.length + es.length ≤ 10000) : PV K S (tOp (rCatA K) te tf) σ H (.tuple (ds ++ es)) := fun H1 s Q q => ha H1 s _ fun v1 H2 s2 h2 => hb H2 (s.trans s2) _ fun v2 H3 s3 h3 => by
  have h2' := dp_same (GoD.of s3) h2
  cases h2' with
  | @tup a xs _ hs1 ha1 =>
  cases h3 with
  | @tup b ys _ hs3 ha3 =>
  have l1 := dps_len ha1
  have l2 := dps_len ha3
  have hsl := sizeLine_eq
  have hd3 : DpAll K (offS S H3) (xs ++ ys) (ds ++ es) := dps_app ha1 ha3
  refine ⟨a, b, xs, ys, rfl, rfl, same_sqt offS_same hs1, same_sqt offS_same hs3, by omega, fun e => ?_, fun _ e => ?_, fun _ _ p hp => ?_⟩
  · subst e
    exact q _ H3 (s2.trans s3) (.tup hs3 hd3)
  · subst e
    rw [List.append_nil] at hd3
    exact q _ H3 (s2.trans s3) (.tup hs1 hd3)
  · exact q _ _ (s2.trans (s3.trans (same_new hp))) (.tup (sqt_offS upd_same ((((hS.same s).same s2).same s3).new hp)) (dps_same (GoD.of (same_new hp)) hd3))
theorem rSlA_off (hS : InD S H) {a : Addr} {xs : List V} {lo hi : Option Int} {Q : VK} (ha : SqT K (offS S H) a xs) (h : ∀ tp H2, Same H H2 → SqT K (offS S H2) tp (cutV xs lo hi) → Q (.ref tp) H2) : rSlA K (.ref a) lo hi H Q := by
  refine ⟨a, xs, rfl, same_sqt offS_same ha, fun e => ?_, fun e p hp => h p _ (same_new hp) (sqt_offS upd_same (hS.new hp))⟩
  refine h a H (fun _ _ z => z) ?_
  have : cutV xs lo hi = xs := by
    unfold cutV
    rw [e.1, e.2, List.drop_zero, Nat.sub_zero, List.take_length]
  rw [this]
  exact ha
theorem pv_take (hS : InD S H) (ha : PV K S te σ H (.tuple ds)) {k : Nat} (hk : PN tf σ (k : Nat)) : PV K S (tSl (rSlA K) te tNoPart (tPart tf)) σ H (.tuple (ds.take k)) := fun H1 s Q q => ha H1 s _ fun v1 H2 s2 h2 => by
  cases h2 with
  | @tup a xs _ hs1 ha1 =>
  refine hk H2 _ ⟨_, rfl, rSlA_off ((hS.same s).same s2) hs1 fun t H3 s3 ht => ?_⟩
  rw [cut_take] at ht
  exact q _ H3 (s2.trans s3) (.tup ht (dps_take k (dps_same (GoD.of s3) ha1)))
theorem pv_drop (hS : InD S H) (ha : PV K S te σ H (.tuple ds)) {k : Nat} (hk : PN tf σ (k : Nat)) : PV K S (tSl (rSlA K) te (tPart tf) tNoPart) σ H (.tuple (ds.drop k)) := fun H1 s Q q => ha H1 s _ fun v1 H2 s2 h2 => by
  cases h2 with
  | @tup a xs _ hs1 ha1 =>
  refine hk H2 _ ⟨_, rfl, rSlA_off ((hS.same s).same s2) hs1 fun t H3 s3 ht => ?_⟩
  rw [cut_drop] at ht
  exact q _ H3 (s2.trans s3) (.tup ht (dps_drop k (dps_same (GoD.of s3) ha1)))
theorem pv_ix (ha : PV K S te σ H (.tuple ds)) {k : Nat} (hk : PN tf σ (k : Nat)) (hd : ds[k]? = some d) : PV K S (tOp (rIxT K) te tf) σ H d := fun H1 s Q q => ha H1 s _ fun v1 H2 s2 h2 => by
  cases h2 with
  | @tup a xs _ hs1 ha1 =>
  have hl := dps_len ha1
  have hkl := (List.getElem?_eq_some_iff.mp hd).1
  have hx : xs[k]? = some (xs[k]'(by omega)) := List.getElem?_eq_getElem (by omega)
  obtain ⟨d', e1, e2⟩ := dps_at ha1 hx
  rw [hd] at e1
  obtain rfl := Option.some.inj e1
  exact hk H2 _ ⟨a, xs, _, _, rfl, rfl, same_sqt offS_same hs1, atI_nat hx, q _ H2 s2 e2⟩
/-- len of data -/
theorem pn_len {v : V} {i : Nat} {r : List V → Hp → VK → Prop} {Q : VK} (hr : r = rLenQ K) (h : σ[i]? = some (some v)) (hd : Dp K (offS S H) v (.tuple ds)) (q : Q (.int (ds.length : Nat)) H) : tCB r (tCons (tVar i) tNil) σ H Q := by
  subst hr
  cases hd with
  | @tup a xs _ hs ha =>
  refine ⟨_, h, a, xs, rfl, .inr (same_sqt offS_same hs), ?_⟩
  rw [dps_len ha]
  exact q
end
end K26
set_option Elab.async false
set_option linter.all false
set_option maxRecDepth 100000
set_option maxHeartbeats 4000000
namespace K26
open PySem PySem.Spec PyProof.Rows L2 Dt
mutual
def dtOf : PyData → Dt
  | .tuple ds => dtRow ds
  | _ => .x
def dtRow : List PyData → Dt
  | [] => .o
  | d :: ds => .c (dtOf d) (dtRow ds)
end
theorem dtf_of {K : PySem.W.Frag} {H : Hp} : ∀ {vs : List V} {ds : List PyData}, DpAll K H vs ds → DtF K H vs (dtRow ds)
  | _, _, .nil => by
    unfold dtRow
    exact .nil
  | _, _, @DpAll.cons _ _ v vs d ds h q => by
    have hq := dtf_of q
    unfold dtRow
    have hk := kind_dp h
    cases h with
    | tup hs ha =>
      have h2 := dtf_of ha
      show DtF K H _ (.c (dtOf (.tuple _)) _)
      unfold dtOf
      exact .tup hs h2 hq
    | non => exact .bad hk (by simp [kindOf]) hq
    | bl b => exact .bad hk (by simp [kindOf]) hq
    | int i => exact .bad hk (by simp [kindOf]) hq
    | str z => exact .bad hk (by simp [kindOf]) hq
    | lst _ _ => exact .bad hk (by simp [kindOf]) hq
theorem dtv_of {K : PySem.W.Frag} {H : Hp} {v : V} {d : PyData} (h : Dp K H v d) : DtV K H v (dtOf d) := by
  have hk := kind_dp h
  cases h with
  | tup hs ha =>
    unfold dtOf
    exact .inr ⟨_, _, rfl, hs, dtf_of ha⟩
  | non => exact .inl ⟨by unfold dtOf; rfl, _, hk, by simp [kindOf]⟩
  | bl b => exact .inl ⟨by unfold dtOf; rfl, _, hk, by simp [kindOf]⟩
  | int i => exact .inl ⟨by unfold dtOf; rfl, _, hk, by simp [kindOf]⟩
  | str z => exact .inl ⟨by unfold dtOf; rfl, _, hk, by simp [kindOf]⟩
  | lst _ _ => exact .inl ⟨by unfold dtOf; rfl, _, hk, by simp [kindOf]⟩
def Shp (n : Nat) (d : PyData) : Prop := d.canLay0 = true ∧ d.depth ≤ n
theorem shps {n : Nat} : ∀ {ds : List PyData}, (∀ e ∈ ds, Shp n e) → PyData.canLayAll0 ds = true ∧ PyData.depthAll ds ≤ n
  | [], _ => ⟨rfl, Nat.zero_le _⟩
  | d :: ds, h => by
    obtain ⟨h1, h2⟩ := shps (n := n) (ds := ds) fun e he => h e (List.mem_cons_of_mem _ he)
    obtain ⟨h3, h4⟩ := h d (List.mem_cons_self ..)
    rw [PyData.canLayAll0, PyData.depthAll, h1, h3]
    exact ⟨rfl, by omega⟩
theorem shp_tup {n : Nat} {ds : List PyData} (h : ∀ e ∈ ds, Shp n e) : Shp (n + 1) (.tuple ds) := by
  obtain ⟨h1, h2⟩ := shps h
  unfold Shp
  rw [PyData.canLay0, PyData.depth]
  exact ⟨h1, by omega⟩
theorem shp_lst {n : Nat} {ds : List PyData} (h : ∀ e ∈ ds, Shp n e) : Shp (n + 1) (.list ds) := by
  obtain ⟨h1, h2⟩ := shps h
  unfold Shp
  rw [PyData.canLay0, PyData.depth]
  exact ⟨h1, by omega⟩
theorem shp_int {n : Nat} {i : Int} : Shp n (.int i) := by
  unfold Shp
  rw [PyData.canLay0, PyData.depth]
  exact ⟨rfl, Nat.zero_le _⟩
theorem shp_ints {n : Nat} {l : List Int} : Shp (n + 1) (intsD l) := shp_tup fun e he => by
  obtain ⟨i, _, rfl⟩ := List.mem_map.mp he
  exact shp_int
theorem Shp.mono {n m : Nat} {d : PyData} (h : Shp n d) (k : n ≤ m) : Shp m d := ⟨h.1, Nat.le_trans h.2 k⟩
theorem Shp.ok {n : Nat} {d : PyData} (h : Shp n d) (k : n ≤ 64) : SeqAt.shaped d = true := by
  unfold SeqAt.shaped
  rw [h.1, decide_eq_true (Nat.le_trans h.2 k)]
  rfl
/-! ### lists of data beside a tape -/
def LVal (K : PySem.W.Frag) (S : List Addr) (H : Hp) (v : V) (ds : List PyData) : Prop := ∃ l xs, v = .ref l ∧ offS S H l = some (.lst xs) ∧ DpAll K (offS S H) xs ds
def PL (K : PySem.W.Frag) (S : List Addr) (te : TE) (σ : L2.St) (H : Hp) (ds : List PyData) : Prop := ∀ H1, Same H H1 → ∀ Q : VK, (∀ v H2, Same H1 H2 → LVal K S H2 v ds → Q v H2) → te σ H1 Q
section
variable {K : PySem.W.Frag} {S : List Addr} {σ : L2.St} {H : Hp} {te tf tg : TE} {ta : TA} {d : PyData} {ds es : List PyData}
theorem LVal.go {H' : Hp} {v : V} (h : LVal K S H v ds) (g : GoD S H H') : LVal K S H' v ds := by
  obtain ⟨l, xs, rfl, h1, h2⟩ := h
  exact ⟨l, xs, rfl, g _ _ h1, dps_same g h2⟩
theorem pl_use {Q : VK} (h : PL K S te σ H ds) (q : ∀ v H', Same H H' → LVal K S H' v ds → Q v H') : te σ H Q := h H same_refl Q q
theorem pl_var {i : Nat} {v : V} (h : σ[i]? = some (some v)) (hd : LVal K S H v ds) : PL K S (tVar i) σ H ds := fun H1 s Q q => ⟨v, h, q v H1 same_refl (hd.go (GoD.of s))⟩
theorem pl_lst (hS : InD S H) (h : PVs K S ta σ H ds) (hl : ds.length ≤ 1000) : PL K S (tLst ta) σ H ds := fun H1 s Q q => h H1 s _ fun vs H2 s2 h2 => by
  have hl1 := dps_len h2
  have hsl := sizeLine_eq
  exact ⟨by omega, fun p hp => q _ _ (s2.trans (same_new hp)) ⟨p, vs, rfl, by rw [offS_ne (((hS.same s).same s2).new hp)]; exact upd_same, dps_same (GoD.of (same_new hp)) h2⟩⟩
theorem pl_cat (hS : InD S H) (ha : PL K S te σ H ds) (hb : PL K S tf σ H es) (hl : ds.length + es.length ≤ 10000) : PL K S (tOp rCat te tf) σ H (ds ++ es) := fun H1 s Q q => ha H1 s _ fun v1 H2 s2 h2 => hb H2 (s.trans s2) _ fun v2 H3 s3 h3 => by
  obtain ⟨a, xs, rfl, a1, a2⟩ := h2.go (GoD.of s3)
  obtain ⟨b, ys, rfl, b1, b2⟩ := h3
  have l1 := dps_len a2
  have l2 := dps_len b2
  have hsl := sizeLine_eq
  exact ⟨a, b, xs, ys, rfl, rfl, (offS_some a1).2, (offS_some b1).2, by omega, fun p hp => q _ _ (s2.trans (s3.trans (same_new hp))) ⟨p, xs ++ ys, rfl, by rw [offS_ne ((((hS.same s).same s2).same s3).new hp)]; exact upd_same, dps_same (GoD.of (same_new hp)) (dps_app a2 b2)⟩⟩
theorem rSlL_off (hS : InD S H) {v : V} {lo hi : Option Int} {Q : VK} (hv : LVal K S H v ds) (q : ∀ p H2 xs, Same H H2 → DpAll K (offS S H) xs ds → offS S H2 p = some (.lst (cutV xs lo hi)) → Q (.ref p) H2) : rSlL K v lo hi H Q := by
  obtain ⟨a, xs, rfl, a1, a2⟩ := hv
  exact ⟨a, xs, rfl, SqL.of (offS_some a1).2, fun p hp => q p _ xs (same_new hp) a2 (by rw [offS_ne (hS.new hp)]; exact upd_same)⟩
theorem pl_take (hS : InD S H) (ha : PL K S te σ H ds) {k : Nat} (hk : PN tf σ (k : Nat)) : PL K S (tSl (rSlL K) te tNoPart (tPart tf)) σ H (ds.take k) := fun H1 s Q q => ha H1 s _ fun v1 H2 s2 h2 => hk H2 _ ⟨_, rfl, rSlL_off ((hS.same s).same s2) h2 fun p H3 xs s3 h3 h4 => by
  rw [cut_take] at h4
  exact q _ H3 (s2.trans s3) ⟨p, _, rfl, h4, dps_take k (dps_same (GoD.of s3) h3)⟩⟩
theorem pl_drop (hS : InD S H) (ha : PL K S te σ H ds) {k : Nat} (hk : PN tf σ (k : Nat)) : PL K S (tSl (rSlL K) te (tPart tf) tNoPart) σ H (ds.drop k) := fun H1 s Q q => ha H1 s _ fun v1 H2 s2 h2 => hk H2 _ ⟨_, rfl, rSlL_off ((hS.same s).same s2) h2 fun p H3 xs s3 h3 h4 => by
  rw [cut_drop] at h4
  exact q _ H3 (s2.trans s3) ⟨p, _, rfl, h4, dps_drop k (dps_same (GoD.of s3) h3)⟩⟩
theorem cut_mid (xs : List V) {i j : Nat} (h1 : i ≤ xs.length) (h2 : j ≤ xs.length) : cutV xs (some (i : Int)) (some (j : Int)) = (xs.drop i).take (j - i) := by
  have a : HT.sIx xs.length 0 (some (i : Int)) = i := by
    unfold HT.sIx
    simp
    rw [if_neg (by omega)]
    omega
  have b : HT.sIx xs.length xs.length (some (j : Int)) = j := by
    unfold HT.sIx
    simp
    rw [if_neg (by omega)]
    omega
  unfold cutV
  rw [a, b]
theorem pl_mid (hS : InD S H) (ha : PL K S te σ H ds) {i j : Nat} (hi : PN tf σ (i : Nat)) (hj : PN tg σ (j : Nat)) (h1 : i ≤ ds.length) (h2 : j ≤ ds.length) : PL K S (tSl (rSlL K) te (tPart tf) (tPart tg)) σ H ((ds.drop i).take (j - i)) := fun H1 s Q q => ha H1 s _ fun v1 H2 s2 h2' => hi H2 _ ⟨_, rfl, hj H2 _ ⟨_, rfl, rSlL_off ((hS.same s).same s2) h2' fun p H3 xs s3 h3 h4 => by
  have hl := dps_len h3
  rw [cut_mid xs (by omega) (by omega)] at h4
  exact q _ H3 (s2.trans s3) ⟨p, _, rfl, h4, dps_take _ (dps_drop i (dps_same (GoD.of s3) h3))⟩⟩⟩
theorem pv_ixL (ha : PL K S te σ H ds) {k : Nat} (hk : PN tf σ (k : Nat)) (hd : ds[k]? = some d) : PV K S (tOp (rIxL K) te tf) σ H d := fun H1 s Q q => ha H1 s _ fun v1 H2 s2 h2 => by
  obtain ⟨a, xs, rfl, a1, a2⟩ := h2
  have hl := dps_len a2
  have hkl := (List.getElem?_eq_some_iff.mp hd).1
  have hx : xs[k]? = some (xs[k]'(by omega)) := List.getElem?_eq_getElem (by omega)
  obtain ⟨d', e1, e2⟩ := dps_at a2 hx
  rw [hd] at e1
  obtain rfl := Option.some.inj e1
  exact hk H2 _ ⟨a, xs, _, _, rfl, rfl, SqL.of (offS_some a1).2, atI_nat hx, q _ H2 s2 e2⟩
theorem pv_tupL (hS : InD S H) (ha : PL K S te σ H ds) {r : List V → Hp → VK → Prop} (hr : r = rTupQ K) : PV K S (tCB r (tCons te tNil)) σ H (.tuple ds) := fun H1 s Q q => ha H1 s _ fun v1 H2 s2 h2 => by
  subst hr
  obtain ⟨a, xs, rfl, a1, a2⟩ := h2
  exact ⟨a, xs, rfl, .inl ⟨SqL.of (offS_some a1).2, fun l hl => q _ _ (s2.trans (same_new hl)) (.tup (sqt_offS upd_same (((hS.same s).same s2).new hl)) (dps_same (GoD.of (same_new hl)) a2))⟩⟩
theorem pn_lenL {v : V} {i : Nat} {r : List V → Hp → VK → Prop} {Q : VK} (hr : r = rLenQ K) (h : σ[i]? = some (some v)) (hd : LVal K S H v ds) (q : Q (.int (ds.length : Nat)) H) : tCB r (tCons (tVar i) tNil) σ H Q := by
  subst hr
  obtain ⟨a, xs, rfl, a1, a2⟩ := hd
  refine ⟨_, h, a, xs, rfl, .inl (SqL.of (offS_some a1).2), ?_⟩
  rw [dps_len a2]
  exact q
end
/-! ### shapes as data -/
theorem dtRow_kids : ∀ ds : List PyData, (dtRow ds).kids = ds.map dtOf
  | [] => by
    unfold dtRow
    rfl
  | d :: ds => by
    unfold dtRow
    show dtOf d :: (dtRow ds).kids = _
    rw [dtRow_kids ds]
    rfl
theorem dtRow_len (ds : List PyData) : (dtRow ds).len = ds.length := by
  rw [← kids_len, dtRow_kids, List.length_map]
theorem dtRow_isx : ∀ ds : List PyData, (dtRow ds).isx = false
  | [] => by unfold dtRow; rfl
  | _ :: _ => by unfold dtRow; rfl
theorem dt_tup (ds : List PyData) : dtOf (.tuple ds) = dtRow ds := by unfold dtOf; rfl
theorem good_tup {ds : List PyData} (h : ds.length ≤ 6) (hk : ∀ d ∈ ds, (dtOf d).good 1 = true) : (dtOf (.tuple ds)).good 1 = true := by
  rw [dt_tup]
  unfold Dt.good Dt.here
  rw [dtRow_isx, dtRow_len, decide_eq_true h, kids_good, dtRow_kids]
  have e : (ds.map dtOf).all (good 1) = true := List.all_eq_true.mpr fun t ht => by
    obtain ⟨d, hd, rfl⟩ := List.mem_map.mp ht
    exact hk d hd
  rw [e]
  by_cases h0 : 0 < ds.length
  · rw [decide_eq_true h0, decide_eq_false (show ¬ ds.length < 1 by omega)]
    rfl
  · rw [decide_eq_false h0]
    rfl
def nd (d : PyData) : Nat := (dtOf d).nodes
def nds (ds : List PyData) : Nat := (ds.map nd).sum
theorem nds_app (a b : List PyData) : nds (a ++ b) = nds a + nds b := by
  unfold nds
  rw [List.map_append, List.sum_append]
theorem nd_row : ∀ ds : List PyData, (dtRow ds).nodes = nds ds + 1
  | [] => by unfold dtRow; rfl
  | d :: ds => by
    unfold dtRow
    show (dtOf d).nodes + (dtRow ds).nodes = _
    rw [nd_row ds]
    unfold nds nd
    rw [List.map_cons, List.sum_cons]
    omega
theorem nd_tup (ds : List PyData) : nd (.tuple ds) = nds ds + 1 := by
  unfold nd
  rw [dt_tup, nd_row]
theorem ht_row {h : Nat} : ∀ ds : List PyData, (∀ d ∈ ds, (dtOf d).ht ≤ h) → (dtRow ds).ht ≤ h + 1
  | [], _ => by unfold dtRow; exact Nat.zero_le _
  | d :: ds, hd => by
    unfold dtRow
    show max ((dtOf d).ht + 1) (dtRow ds).ht ≤ h + 1
    have h1 := hd d (List.mem_cons_self ..)
    have h2 := ht_row ds fun x hx => hd x (List.mem_cons_of_mem _ hx)
    omega
theorem size_nodes : ∀ t : Dt, t.size + 1 ≤ 2 * t.nodes
  | .x => Nat.le_refl 2
  | .o => Nat.le_refl 2
  | .c k r => by
    have h1 := size_nodes k
    have h2 := size_nodes r
    show k.size + r.size + 1 + 1 ≤ 2 * (k.nodes + r.nodes)
    omega
/-- the parts that a form is made of -/
structure Fs (s : Nat) (ds : List PyData) : Prop where
  ne : ds ≠ []
  good : ∀ d ∈ ds, (dtOf d).good 1 = true
  ht : ∀ d ∈ ds, (dtOf d).ht + s + ds.length ≤ 12
  nd : nds ds + s + ds.length ≤ 21
  sh : ∀ d ∈ ds, Shp (13 - (s + ds.length)) d
theorem Fs.pos {s : Nat} {ds : List PyData} (h : Fs s ds) : 1 ≤ ds.length := by
  have := h.ne
  cases ds with
  | nil => exact absurd rfl this
  | cons _ _ => exact Nat.le_add_left 1 _
theorem Fs.le {s : Nat} {ds : List PyData} (h : Fs s ds) : s + ds.length ≤ 12 := by
  cases ds with
  | nil => exact absurd rfl h.ne
  | cons d ds => have := h.ht d (List.mem_cons_self ..); omega
def leafD : PyData := .tuple []
theorem fs_start {n : Nat} (h1 : 1 ≤ n) (h2 : n ≤ 9) : Fs 3 (List.replicate n leafD) := by
  have e : dtOf leafD = .o := by
    unfold leafD
    rw [dt_tup]
    unfold dtRow
    rfl
  refine ⟨fun z => ?_, fun d hd => ?_, fun d hd => ?_, ?_, fun d hd => ?_⟩
  · have := congrArg List.length z
    rw [List.length_replicate] at this
    rw [List.length_nil] at this
    omega
  · rw [(List.mem_replicate.mp hd).2, e]
    rfl
  · rw [(List.mem_replicate.mp hd).2, e, List.length_replicate]
    show 0 + 3 + n ≤ 12
    omega
  · have e2 : K26.nd leafD = 1 := by
      unfold K26.nd
      rw [e]
      rfl
    have e3 : ∀ m : Nat, nds (List.replicate m leafD) = m := by
      intro m
      induction m with
      | zero => rfl
      | succ m ih =>
        rw [List.replicate_succ]
        show K26.nd leafD + nds (List.replicate m leafD) = m + 1
        rw [ih, e2]
        omega
    rw [e3, List.length_replicate]
    omega
  · rw [(List.mem_replicate.mp hd).2]
    have : Shp (0 + 1) leafD := shp_tup fun e he => nomatch he
    exact this.mono (by rw [List.length_replicate]; omega)
theorem split_at {ds : List PyData} {r : Nat} {d : PyData} (h : ds[r]? = some d) : ds = ds.take r ++ [d] ++ ds.drop (r + 1) := by
  obtain ⟨h1, h2⟩ := List.getElem?_eq_some_iff.mp h
  conv => lhs; rw [← List.take_append_drop r ds, List.drop_eq_getElem_cons h1, h2]
  simp
/-- a run of them becomes one -/
theorem fs_fold {s s' : Nat} {ds : List PyData} {r w : Nat} (h : Fs s ds) (h1 : 1 ≤ w) (h6 : w ≤ 6) (hr : r + w ≤ ds.length) (hs : s' + 1 + 1 ≤ s + w) (hs' : s' ≤ s) : Fs s' (ds.take r ++ [.tuple ((ds.drop r).take w)] ++ ds.drop (r + w)) := by
  have hlen : (ds.take r ++ [PyData.tuple ((ds.drop r).take w)] ++ ds.drop (r + w)).length = ds.length + 1 - w := by
    rw [List.length_append, List.length_append, List.length_take, List.length_drop, List.length_singleton]
    omega
  have hw : ((ds.drop r).take w).length = w := by
    rw [List.length_take, List.length_drop]
    omega
  have hm : ∀ d ∈ (ds.drop r).take w, d ∈ ds := fun d hd => List.mem_of_mem_drop (List.mem_of_mem_take hd)
  have key : ∀ {p : PyData → Prop}, (∀ d ∈ ds, p d) → p (.tuple ((ds.drop r).take w)) → ∀ d ∈ ds.take r ++ [PyData.tuple ((ds.drop r).take w)] ++ ds.drop (r + w), p d := fun ha hb d hd => by
    rcases List.mem_append.mp hd with hd | hd
    · rcases List.mem_append.mp hd with hd | hd
      · exact ha d (List.mem_of_mem_take hd)
      · obtain rfl := List.mem_singleton.mp hd
        exact hb
    · exact ha d (List.mem_of_mem_drop hd)
  refine ⟨fun z => ?_, key h.good (good_tup (by omega) fun d hd => h.good d (hm d hd)), ?_, ?_, ?_⟩
  · rw [z] at hlen
    have : ds.length + 1 - w = 0 := hlen.symm
    omega
  · rw [hlen]
    refine key (fun d hd => ?_) ?_
    · have := h.ht d hd
      omega
    · rw [dt_tup]
      have := ht_row (h := 12 - s - ds.length) ((ds.drop r).take w) fun d hd => by
        have := h.ht d (hm d hd)
        omega
      have := h.le
      omega
  · rw [nds_app, nds_app, hlen]
    have e : nds [PyData.tuple ((ds.drop r).take w)] = nds ((ds.drop r).take w) + 1 := by
      show nd _ + 0 = _
      rw [nd_tup]
    have e2 : nds ds = nds (ds.take r) + (nds ((ds.drop r).take w) + nds (ds.drop (r + w))) := by
      rw [← nds_app, ← nds_app]
      congr 1
      have : ds.drop (r + w) = (ds.drop r).drop w := by rw [List.drop_drop]
      rw [this, List.take_append_drop, List.take_append_drop]
    have := h.nd
    rw [e]
    omega
  · rw [hlen]
    have := h.le
    refine key (fun d hd => (h.sh d hd).mono (by omega)) ?_
    have q : Shp (13 - (s + ds.length) + 1) (.tuple ((ds.drop r).take w)) := shp_tup fun e he => h.sh e (hm e he)
    exact q.mono (by omega)
/-- what a form is -/
structure FormOK (d : PyData) : Prop where
  good : (dtOf d).good 1 = true
  nd : nd d ≤ 20
  ht : (dtOf d).ht ≤ 11
  sh : Shp 13 d
theorem fs_form {s : Nat} {ds : List PyData} {d : PyData} (h : Fs s ds) (hd : d ∈ ds) : FormOK d := by
  have hp := h.pos
  refine ⟨h.good d hd, ?_, ?_, (h.sh d hd).mono (by omega)⟩
  · have h1 := h.nd
    have : K26.nd d ≤ nds ds := by
      obtain ⟨r, hr⟩ := List.mem_iff_getElem?.mp hd
      have := congrArg nds (split_at hr)
      rw [nds_app, nds_app] at this
      have e : nds [d] = K26.nd d := Nat.add_zero _
      omega
    omega
  · have := h.ht d hd
    omega
theorem FormOK.size {d : PyData} (h : FormOK d) : (dtOf d).size ≤ 100000 := by
  have := size_nodes (dtOf d)
  have := h.nd
  unfold K26.nd at this
  omega
end K26
set_option Elab.async false
set_option linter.all false
set_option maxRecDepth 100000
set_option maxHeartbeats 8000000
namespace K26
open PySem PySem.Spec PyProof.Rows L2 Dt
theorem goT {K : PySem.W.Frag} {tp ca : Addr} {H H' : Hp} (r : Rn K tp ca H H') : GoD [tp] H H' := GoD.rn r (by simp)
/-! ### _law_form -/
def stFo (tp : Addr) (o1 : Option V) (v : V) (s : Nat) (o4 o5 o6 : Option V) : L2.St := [some (.ref tp), o1, some v, some (.int (s : Nat)), o4, o5, o6]
def spForm (K : PySem.W.Frag) : Sp := fun vs H Q _ => ∃ (tp ca : Addr), vs = [.ref tp] ∧ Tape K H tp ca ∧ ∀ H' v d, Rn K tp ca H H' → FormOK d → Dp K (offS [tp] H') v d → Q v H'
def tParts (K : PySem.W.Frag) : TS := fun D σ H => ∃ (tp ca : Addr), σ = [some (.ref tp), none, none, none, none, none, none] ∧ Tape K H tp ca ∧ ∀ H' v n, Rn K tp ca H H' → 1 ≤ n → n ≤ 9 → LVal K [tp] H' v (List.replicate n leafD) → D.nx [some (.ref tp), none, some v, none, none, none, none] H'
def tF1 (K : PySem.W.Frag) : TS := fun D σ H => ∃ (tp ca : Addr) (o1 : Option V) (v : V) (s : Nat) (o4 o5 o6 : Option V) (ds : List PyData), σ = stFo tp o1 v s o4 o5 o6 ∧ Tape K H tp ca ∧ LVal K [tp] H v ds ∧ Fs s ds ∧
  ∀ H' v' s' o5' ds', Rn K tp ca H H' → LVal K [tp] H' v' ds' → Fs s' ds' → D.nx (stFo tp o1 v' s' o4 o5' o6) H'
def tF2 (K : PySem.W.Frag) : TS := fun D σ H => ∃ (tp ca : Addr) (o1 : Option V) (v : V) (s : Nat) (o4 o5 o6 : Option V) (ds : List PyData), σ = stFo tp o1 v s o4 o5 o6 ∧ Tape K H tp ca ∧ LVal K [tp] H v ds ∧ Fs s ds ∧
  ∀ H' v' o5' o6' ds', Rn K tp ca H H' → LVal K [tp] H' v' ds' → Fs s ds' → D.nx (stFo tp o1 v' s o4 o5' o6') H'
def tWd (K : PySem.W.Frag) : TS := fun D σ H => ∃ (tp ca : Addr) (o1 : Option V) (v : V) (s : Nat) (o4 o5 : Option V) (w : Nat) (ds : List PyData), σ = stFo tp o1 v s o4 o5 (some (.int (w : Nat))) ∧ Tape K H tp ca ∧ LVal K [tp] H v ds ∧ 2 ≤ w ∧ w ≤ 6 ∧ w ≤ ds.length ∧
  ∀ H' (w' : Nat), Rn K tp ca H H' → 2 ≤ w' → w' ≤ 6 → w' ≤ ds.length → D.nx (stFo tp o1 v s o4 o5 (some (.int (w' : Nat)))) H'
def tOne (K : PySem.W.Frag) : TE := fun σ H Q => ∃ (tp : Addr) (v : V) (r : Nat) (ds : List PyData) (d : PyData), σ[2]? = some (some v) ∧ σ[5]? = some (some (.int (r : Nat))) ∧ InD [tp] H ∧ LVal K [tp] H v ds ∧ ds[r]? = some d ∧ ds.length ≤ 100 ∧
  ∀ H' v', Same H H' → LVal K [tp] H' v' (ds.take r ++ [.tuple [d]] ++ ds.drop (r + 1)) → Q v' H'
def tMerge (K : PySem.W.Frag) : TE := fun σ H Q => ∃ (tp : Addr) (v : V) (r w : Nat) (ds : List PyData), σ[2]? = some (some v) ∧ σ[5]? = some (some (.int (r : Nat))) ∧ σ[6]? = some (some (.int (w : Nat))) ∧ InD [tp] H ∧ LVal K [tp] H v ds ∧ r + w ≤ ds.length ∧ ds.length ≤ 100 ∧
  ∀ H' v', Same H H' → LVal K [tp] H' v' (ds.take r ++ [.tuple ((ds.drop r).take w)] ++ ds.drop (r + w)) → Q v' H'
theorem fs_single {s r : Nat} {ds : List PyData} {d : PyData} (h : Fs s ds) (hs : 1 ≤ s) (hd : ds[r]? = some d) : Fs (s - 1) (ds.take r ++ [.tuple [d]] ++ ds.drop (r + 1)) := by
  have h1 := (List.getElem?_eq_some_iff.mp hd).1
  have e : (ds.drop r).take 1 = [d] := by
    rw [List.drop_eq_getElem_cons h1, (List.getElem?_eq_some_iff.mp hd).2]
    rfl
  have := fs_fold (s' := s - 1) (r := r) (w := 1) h (Nat.le_refl 1) (by decide) (by omega) (by omega) (by omega)
  rw [e] at this
  exact this
theorem minI (i j : Nat) : (if (j : Int) < (i : Int) then (j : Int) else (i : Int)) = ((min i j : Nat) : Int) := by
  by_cases h : j < i
  · rw [if_pos (by omega), Nat.min_eq_right (by omega)]
  · rw [if_neg (by omega), Nat.min_eq_left (by omega)]
section
variable {P : Program} {w : World} {K : PySem.W.Frag} {mg : Str → Option Value} {base : Heap} {C U fI fG B S PA : Addr}
theorem ok_form (D : DefAt K mg "_law_form" s_law_form ["tape"]) (T : Txt K mg) (GDraw : CalX P w K mg base CX0 1 "_law_draw" ["tape", "many"] (spDraw K)) : CalX P w K mg base CX0 2 "_law_form" ["tape"] (spForm K) := by
  refine D.ok sc_law_form (fun vs H Q E h => ?_) (fun f cdv A outer s H vs Q E hr h => ?_)
  · obtain ⟨tp, ca, rfl, _⟩ := h
    rfl
  obtain ⟨tp, ca, rfl, hT, q⟩ := h
  refine ⟨_, (pss_cons (ps_conv (t' := tParts K) (ps_setLc (i := 2) (own := [("k", 1)]) (g := gName 1) (tt := tYes) (by rfl) sc_law_form.nd rfl rfl (sw_true rfl rfl (by decide) (by decide)) (pi_range1 (by rfl) T.range (pa_cons (pe_op op_add (pe_c0 GDraw hr (by decide) rfl (pa_cons (pv 0) (pa_cons pe_int pa_nil))) pe_int) pa_nil)) (blkOk_by (own := [("k", 1)]) (N := N_law_form) (sc := defScope s_law_form) (by decide +kernel)) (fun _ _ _ _ _ => pg_name (i := 1) sc_law_form.nd rfl (Or.inl rfl)) (fun _ _ _ _ _ => pts_nil) (fun _ _ _ _ _ => by exact (pe_tup pa_nil))) (by
        rintro D σ H ⟨tp, ca, rfl, hT, k⟩
        refine ⟨_, rfl, tp, ca, 9, rfl, hT, by decide, by decide, fun H1 r hr1 R1 => ⟨_, _, rfl, rfl, _, rfl, by omega, by omega, fun Dl hDl => ?_⟩⟩
        refine lc_range (lo := 0) (n := r + 1) (fun i H' => Same H1 H' ∧ ∃ acc, H' Dl = some (.lst acc) ∧ acc.length = i ∧ Made K H1 H' Dl acc (List.replicate i leafD)) ⟨same_new hDl, [], upd_same, rfl, fun _ _ => .nil⟩ ?_ ?_
        · rintro i H' hi ⟨sm, acc, hD, hal, hm⟩
          refine ⟨rfl, (by show 0 ≤ sizeLine; decide), fun p hp => ⟨acc, (same_new hp) _ _ hD, small1000 (by omega), same_mut (sm.trans (same_new hp)) hDl, acc ++ [.ref p], upd_same, by rw [List.length_append]; show acc.length + 1 = i + 1; omega, ?_⟩⟩
          have f : DpF K H' (upd H' p (.tup [])) (.ref p) leafD := fun H3 hk => .tup (SqT.of (hk p _ hp upd_same)) .nil
          rw [List.replicate_succ']
          exact Made.step sm hD (same_new hp) hm f
        · rintro H2 ⟨sm, acc, hD, hal, hm⟩
          have R2 := R1.same sm
          have nD : Dl ∉ [tp] := R1.b.inD.new hDl
          refine k H2 (.ref Dl) (r + 1) R2 (by omega) (by omega) ⟨Dl, acc, rfl, by rw [offS_ne nD]; exact hD, hm _ fun b u h1 h2 h3 => ?_⟩
          rw [offS_ne (R1.b.inD.new h1)]
          exact h3)) 
    (pss_cons (ps_set (i := 3) sc_law_form.nd rfl (.inl rfl) pe_int) 
    (pss_cons (ps_for PassesOwn.never rfl (pi_range1 (by rfl) T.range (pa_cons pe_int pa_nil)) (pg_name (i := 4) sc_law_form.nd rfl (Or.inl rfl)) 
      (pss_cons (ps_conv (t' := tF1 K) (ps_if (PW.pt (pw_and (pt_cmpR op_gt (pv 3) pe_int (nomark _)) (pw_and1 (pt_cmpR op_eq (pe_c0 GDraw hr (by decide) rfl (pa_cons (pv 0) (pa_cons pe_int pa_nil))) pe_int (nomark _))))) 
        (pss_cons (ps_set (i := 5) sc_law_form.nd rfl (.inl rfl) (pe_c0 GDraw hr (by decide) rfl (pa_cons (pv 0) (pa_cons (pe_callB call_len_seq (by rfl) T.len PySem.boot_len (pa_cons (pv 2) pa_nil)) pa_nil)))) 
        (pss_cons (ps_set (i := 2) sc_law_form.nd rfl (.inl rfl) (pe_conv (t' := tOne K) (pe_op op_cat (pe_op op_cat (pe_slice sl_list (pv 2) po_none (po_some (pv 5))) (pe_lst (pa_cons (pe_tup (pa_cons (pe_ix ix_list (pv 2) (pv 5) (fun _ _ => rfl)) pa_nil)) pa_nil))) (pe_slice sl_list (pv 2) (po_some (pe_op op_add (pv 5) pe_int)) po_none)) (by
        rintro σ H Q ⟨tp, v, r, ds, d, h2, h5, hS, hv, hd, hn, k⟩
        have h1 := (List.getElem?_eq_some_iff.mp hd).1
        have pl := pl_var (K := K) h2 hv
        have n5 : PN (tVar 5) σ ((r : Nat) : Int) := pn_v h5
        have n1 : PN (tOp (rI0 fun i j => .int (i + j)) (tVar 5) (tC (.int 1))) σ ((r + 1 : Nat) : Int) := pn_add n5 pn_c
        have p := pl_cat hS (pl_cat hS (pl_take hS pl n5) (pl_lst hS (pvs_cons (pv_tup hS (pvs_cons (pv_ixL pl n5 hd) pvs_nil) (by show 1 ≤ 1000; decide)) pvs_nil) (by show 1 ≤ 1000; decide)) (by
          rw [List.length_take]
          show min r _ + 1 ≤ 10000
          omega)) (pl_drop hS pl n1) (by
          rw [List.length_append, List.length_take, List.length_drop]
          show min r _ + 1 + _ ≤ 10000
          omega)
        exact pl_use p fun v' H' s hv' => k H' v' s hv'))) 
        (pss_one (ps_aug (i := 3) sc_law_form.nd rfl (.inl rfl) pe_int ip_sub)))) pss_nil) (by
        rintro D σ H ⟨tp, ca, o1, v, s, o4, o5, o6, ds, rfl, hT, hv, hf, k⟩
        refine ⟨_, rfl, _, _, rfl, rfl, _, rfl, ?_⟩
        refine ite2 (fun c => ?_) (fun c => iteF (k H v s o5 ds (Rn.refl hT) hv hf))
        have hs : 1 ≤ s := by
          have := of_decide_eq_true c
          omega
        refine ⟨_, rfl, tp, ca, 5, rfl, hT, by decide, by decide, fun H1 r hr1 R1 => ⟨rfl, _, rfl, ?_⟩⟩
        have hv1 := hv.go (goT R1)
        refine ite2 (fun c => ?_) (fun c => k H1 v s o5 ds R1 hv1 hf)
        have hv1' := hv1
        obtain ⟨l, xs, rfl, a1, a2⟩ := hv1
        have hl := dps_len a2
        have hp := hf.pos
        have hle := hf.le
        refine ⟨_, rfl, _, rfl, l, xs, rfl, .inl (SqL.of (offS_some a1).2), tp, ca, ds.length, by rw [hl]; rfl, R1.b, by omega, by omega, fun H2 r2 hr2 R2 => ?_⟩
        have hd : ds[r2]? = some (ds[r2]'hr2) := List.getElem?_eq_getElem hr2
        refine ⟨tp, _, r2, ds, _, rfl, rfl, R2.b.inD, hv1'.go (goT R2), hd, by omega, fun H3 v3 s3 hv3 => ?_⟩
        refine ⟨_, rfl, _, _, rfl, rfl, ?_⟩
        have e : ((s : Nat) : Int) - 1 = ((s - 1 : Nat) : Int) := by omega
        have := k H3 v3 (s - 1) (some (.int (r2 : Nat))) _ (R1.trans (R2.same s3)) hv3 (fs_single hf hs hd)
        unfold stFo at this
        rw [← e] at this
        exact this)) 
      (pss_one (ps_conv (t' := tF2 K) (ps_if (pt_cmpR op_gt (pe_callB call_len_seq (by rfl) T.len PySem.boot_len (pa_cons (pv 2) pa_nil)) pe_int (nomark _)) 
        (pss_cons (ps_set (i := 6) sc_law_form.nd rfl (.inl rfl) (pe_callB (call_min2 rfl) (by rfl) T.min (by decide +kernel) (pa_cons (pe_op op_add pe_int (pe_c0 GDraw hr (by decide) rfl (pa_cons (pv 0) (pa_cons pe_int pa_nil)))) (pa_cons (pe_callB call_len_seq (by rfl) T.len PySem.boot_len (pa_cons (pv 2) pa_nil)) pa_nil)))) 
        (pss_cons (ps_conv (t' := tWd K) (ps_if (pt_cmpR op_eq (pe_c0 GDraw hr (by decide) rfl (pa_cons (pv 0) (pa_cons pe_int pa_nil))) pe_int (nomark _)) 
          (pss_one (ps_set (i := 6) sc_law_form.nd rfl (.inl rfl) (pe_callB (call_min2 rfl) (by rfl) T.min (by decide +kernel) (pa_cons pe_int (pa_cons (pe_callB call_len_seq (by rfl) T.len PySem.boot_len (pa_cons (pv 2) pa_nil)) pa_nil))))) pss_nil) (by
        rintro D σ H ⟨tp, ca, o1, v, s, o4, o5, w, ds, rfl, hT, hv, w1, w2, w3, k⟩
        refine ⟨_, rfl, tp, ca, 7, rfl, hT, by decide, by decide, fun H1 r hr1 R1 => ⟨rfl, _, rfl, ?_⟩⟩
        refine ite2 (fun c => ?_) (fun c => k H1 w R1 w1 w2 w3)
        obtain ⟨l, xs, rfl, a1, a2⟩ := hv.go (goT R1)
        have hl := dps_len a2
        refine ⟨_, rfl, l, xs, rfl, .inl (SqL.of (offS_some a1).2), _, _, rfl, ?_⟩
        have e := minI 6 xs.length
        have := k H1 (min 6 xs.length) R1 (by omega) (by omega) (by omega)
        unfold stFo at this
        rw [← e] at this
        exact this)) 
        (pss_cons (ps_set (i := 5) sc_law_form.nd rfl (.inl rfl) (pe_c0 GDraw hr (by decide) rfl (pa_cons (pv 0) (pa_cons (pe_op op_add (pe_op op_sub (pe_callB call_len_seq (by rfl) T.len PySem.boot_len (pa_cons (pv 2) pa_nil)) (pv 6)) pe_int) pa_nil)))) 
        (pss_one (ps_set (i := 2) sc_law_form.nd rfl (.inl rfl) (pe_conv (t' := tMerge K) (pe_op op_cat (pe_op op_cat (pe_slice sl_list (pv 2) po_none (po_some (pv 5))) (pe_lst (pa_cons (pe_callTy call_tuple_of (by rfl) T.tuple PyProof.Rows.boot_tuple (pa_cons (pe_slice sl_list (pv 2) (po_some (pv 5)) (po_some (pe_op op_add (pv 5) (pv 6)))) pa_nil)) pa_nil))) (pe_slice sl_list (pv 2) (po_some (pe_op op_add (pv 5) (pv 6))) po_none)) (by
        rintro σ H Q ⟨tp, v, r, w, ds, h2, h5, h6, hS, hv, hw, hn, k⟩
        have pl := pl_var (K := K) h2 hv
        have n5 : PN (tVar 5) σ ((r : Nat) : Int) := pn_v h5
        have n1 : PN (tOp (rI0 fun i j => .int (i + j)) (tVar 5) (tVar 6)) σ ((r + w : Nat) : Int) := pn_add n5 (pn_v h6)
        have pm := pl_mid hS pl n5 n1 (by omega) hw
        rw [Nat.add_sub_cancel_left] at pm
        have p := pl_cat hS (pl_cat hS (pl_take hS pl n5) (pl_lst hS (pvs_cons (pv_tupL hS pm rfl) pvs_nil) (by show 1 ≤ 1000; decide)) (by
          rw [List.length_take]
          show min r _ + 1 ≤ 10000
          omega)) (pl_drop hS pl n1) (by
          rw [List.length_append, List.length_take, List.length_drop]
          show min r _ + 1 + _ ≤ 10000
          omega)
        exact pl_use p fun v' H' s hv' => k H' v' s hv'))))))) pss_nil) (by
        rintro D σ H ⟨tp, ca, o1, v, s, o4, o5, o6, ds, rfl, hT, hv, hf, k⟩
        have hv' := hv
        obtain ⟨l, xs, rfl, a1, a2⟩ := hv
        have hl := dps_len a2
        have hle := hf.le
        refine ⟨_, rfl, l, xs, rfl, .inl (SqL.of (offS_some a1).2), _, _, rfl, rfl, _, rfl, ?_⟩
        refine ite2 (fun c => ?_) (fun c => k H _ o5 o6 ds (Rn.refl hT) hv' hf)
        have c2 := of_decide_eq_true c
        refine ⟨_, rfl, tp, ca, 2, rfl, hT, by decide, by decide, fun H1 r hr1 R1 => ?_⟩
        have hv1 := hv'.go (goT R1)
        have hs1 : SqL K H1 l xs := SqL.of (offS_some ((goT R1) _ _ a1)).2
        refine ⟨_, _, rfl, rfl, _, rfl, l, xs, rfl, .inl hs1, _, _, rfl, ?_⟩
        have e := minI (2 + r) xs.length
        refine ⟨tp, ca, o1, .ref l, s, o4, o5, min (2 + r) xs.length, ds, by rw [← e]; rfl, R1.b, hv1, by omega, by omega, by omega, fun H2 w' R2 w1 w2 w3 => ?_⟩
        have hs2 : SqL K H2 l xs := SqL.of (offS_some ((goT (R1.trans R2)) _ _ a1)).2
        have e2 : ((xs.length : Nat) : Int) - ((w' : Nat) : Int) + 1 = ((ds.length - w' + 1 : Nat) : Int) := by omega
        refine ⟨_, rfl, _, rfl, l, xs, rfl, .inl hs2, _, rfl, _, _, rfl, rfl, _, _, rfl, rfl, tp, ca, ds.length - w' + 1, congrArg (fun z => [V.ref tp, V.int z]) e2, R2.b, by omega, by omega, fun H3 r3 hr3 R3 => ?_⟩
        refine ⟨tp, _, r3, w', ds, rfl, rfl, rfl, R3.b.inD, (hv1.go (goT R2)).go (goT R3), by omega, by omega, fun H4 v4 s4 hv4 => ?_⟩
        exact k H4 v4 _ _ _ (R1.trans (R2.trans (R3.same s4))) hv4 (fs_fold hf (by omega) w2 (by omega) (by omega) (Nat.le_refl _))))))) 
    (pss_one (ps_ret (pe_ix ix_list (pv 2) pe_int (fun _ _ => rfl))))))), ?_⟩

  refine ⟨tp, ca, rfl, hT, fun H1 v n R1 n1 n2 hv => ?_⟩
  refine ⟨_, rfl, by decide, by decide, for_range (lo := 0) (n := 12) (fun i σ H' => Rn K tp ca H H' ∧ ∃ v' s' o4 o5 o6 ds, σ = stFo tp none v' s' o4 o5 o6 ∧ LVal K [tp] H' v' ds ∧ Fs s' ds) ⟨R1, v, 3, none, none, none, _, rfl, hv, fs_start n1 n2⟩ ?_ ?_⟩
  · rintro i σ H2 hi ⟨R2, v', s', o4, o5, o6, ds, rfl, hv2, hf⟩
    refine ⟨tp, ca, _, v', s', _, o5, o6, ds, rfl, R2.b, hv2, hf, fun H3 v3 s3 o53 ds3 R3 hv3 hf3 => ?_⟩
    refine ⟨tp, ca, _, v3, s3, _, o53, o6, ds3, rfl, R3.b, hv3, hf3, fun H4 v4 o54 o64 ds4 R4 hv4 hf4 => ?_⟩
    exact ⟨R2.trans (R3.trans R4), v4, s3, _, o54, o64, ds4, rfl, hv4, hf4⟩
  · rintro σ H2 ⟨R2, v', s', o4, o5, o6, ds, rfl, hv2, hf⟩
    have hp := hf.pos
    obtain ⟨l, xs, rfl, a1, a2⟩ := hv2
    have hl := dps_len a2
    have hx : xs[0]? = some (xs[0]'(by omega)) := List.getElem?_eq_getElem (by omega)
    obtain ⟨d, hd, hdv⟩ := dps_at a2 hx
    exact ⟨_, rfl, l, xs, 0, _, rfl, rfl, SqL.of (offS_some a1).2, atI_nat hx, q H2 _ d R2 (fs_form hf (List.mem_of_getElem? hd)) hdv⟩
end
end K26
set_option Elab.async false
set_option linter.all false
set_option maxRecDepth 100000
set_option maxHeartbeats 4000000
namespace PySem
open PySem.Spec PyProof.Rows
open Sem (wp)
open AutoSeq1 (wpAny_loadPart')
theorem key_of3 {prog : Program} {w : World} : ∀ {l : List Value} {ns : List Int}, IntsAre l ns → ItemsAre (L2.mixKind prog w) (ns.map fun i => (Sum.inl i : L2.Key)) l
  | _, _, .nil => .nil
  | _, _, .cons n t h => .cons (L2.mixKind_int prog w n t) (key_of3 h)
theorem inl_inj3 : ∀ {ns ms : List Int}, ns.map (fun i => (Sum.inl i : L2.Key)) = ms.map (fun i => (Sum.inl i : L2.Key)) → ns = ms
  | [], [], _ => rfl
  | [], _ :: _, h => nomatch h
  | _ :: _, [], h => nomatch h
  | n :: ns, m :: ms, h => by
    injection h with h1 h2
    injection h1 with h1
    rw [h1, inl_inj3 h2]
theorem meets_lt3 (l b ra rb : Addr) (c i c2 i2 : Int) (t1 t2 u1 u2 : Tok) (n n2 : Nat) (dd dd2 : Option Addr) (sl sl2 : Array (Option Value)) (ns ms : List Int) (its jts : Array Value) :
    Meets (Builtin.«tuple.__lt__» ⟨[.ref l, .ref b], []⟩) (fun A R s =>
      s.heap.get? l = some { cls := .type "tuple", dict := dd, data := .seq #[.ref ra, .int c t1, .int i t2] n, slots := sl } ∧
      s.heap.get? b = some { cls := .type "tuple", dict := dd2, data := .seq #[.ref rb, .int c2 u1, .int i2 u2] n2, slots := sl2 } ∧
      IsTup s.heap ra its ∧ IsTup s.heap rb jts ∧ IntsAre its.toList ns ∧ IntsAre jts.toList ms ∧ A.in1.units < cLine ∧ c ≠ c2 ∧
      R (.ok (.ret (.bool (if ns = ms then decide (c < c2) else HT.lexLt ns ms)))) s) :=
  .of_wp fun prog w A R s h => by
    obtain ⟨hp, g, d, tk, os⟩ := s
    obtain ⟨hl, hb, h1, h2, i1, i2, hu, hc, h⟩ := h
    unfold Builtin.«tuple.__lt__»
    have hsub : isSubtype (Value.type "tuple") (Value.type "tuple") = pure true := sub_tuple_tuple
    have k1 : IsTupleKey (L2.mixKind prog w) hp (ns.map fun i => (Sum.inl i : L2.Key)) ra := by
      obtain ⟨ok, hok, ck, nk, dk⟩ := h1
      exact ⟨ok, _, nk, hok, ck, dk, key_of3 i1⟩
    have k2 : IsTupleKey (L2.mixKind prog w) hp (ms.map fun i => (Sum.inl i : L2.Key)) rb := by
      obtain ⟨ok, hok, ck, nk, dk⟩ := h2
      exact ⟨ok, _, nk, hok, ck, dk, key_of3 i2⟩
    have hlt : ∀ {E Q : Value → Shared → Prop}, Q (Value.bool (HT.lexLt ns ms)) ⟨hp, g, d, tk, os⟩ → wpAny (model prog w) A.in1 (richCompare CmpOp.Lt (Value.ref ra) (Value.ref rb)) Q E ⟨hp, g, d, tk, os⟩ := fun h => HT.lt_tupInts h1 h2 i1 i2 hu h
    have heq : ∀ {E : Value → Shared → Prop} {Q : Bool → Shared → Prop}, Q (decide (ns = ms)) ⟨hp, g, d, tk, os⟩ → wpAny (model prog w) A.in1 (eqBool (Value.ref ra) (Value.ref rb)) Q E ⟨hp, g, d, tk, os⟩ := fun {E} {Q} h => wpAny_eqBool_tuple (s := ⟨hp, g, d, tk, os⟩) hu k1 k2 (by
      have : decide ((ns.map fun i => (Sum.inl i : L2.Key)) = ms.map fun i => (Sum.inl i : L2.Key)) = decide (ns = ms) := by
        by_cases e : ns = ms
        · rw [e, decide_eq_true rfl, decide_eq_true rfl]
        · rw [decide_eq_false e, decide_eq_false fun z => e (inl_inj3 z)]
      rw [this]
      exact h)
    have hei : ∀ {E : Value → Shared → Prop} {Q : Bool → Shared → Prop}, Q false ⟨hp, g, d, tk, os⟩ → wpAny (model prog w) A.in1 (eqBool (Value.int c t1) (Value.int c2 u1)) Q E ⟨hp, g, d, tk, os⟩ := fun {E} {Q} h => by
      refine SeqAt.EqAt.int_int (A := A.in1) (s := ⟨hp, g, d, tk, os⟩) c t1 c2 u1 prog w E Q ?_
      rw [beq_false_of_ne hc]
      exact h
    have hli : ∀ {E Q : Value → Shared → Prop}, Q (Value.bool (decide (c < c2))) ⟨hp, g, d, tk, os⟩ → wpAny (model prog w) A.in1 (richCompare CmpOp.Lt (Value.int c t1) (Value.int c2 u1)) Q E ⟨hp, g, d, tk, os⟩ := fun h => HT.rcLt_int _ _ _ _ _ _ _ _ _ _ h
    by_cases e : ns = ms
    · rw [if_pos e] at h
      rw [decide_eq_true e] at heq
      wp_walk using wpAny_loadPart' hl, wpAny_loadPart' hb, heq, hei, hli
      exact ⟨_, rfl, h⟩
    · rw [if_neg e] at h
      rw [decide_eq_false e] at heq
      wp_walk using wpAny_loadPart' hl, wpAny_loadPart' hb, heq, hlt
      exact ⟨_, rfl, h⟩
end PySem
set_option Elab.async false
set_option linter.all false
set_option maxRecDepth 100000
set_option maxHeartbeats 4000000
namespace PySem
open PySem.Spec PyProof.Rows
open Sem (wp)
open AutoSeq1 (wpAny_loadPart')
/-- a triple: a tuple of whole numbers, a number, a number -/
def T3 (h : Heap) (v : Value) (k : List Int × Int) : Prop := ∃ (a ra : Addr) (i : Int) (t1 t2 : Tok) (its : Array Value), v = .ref a ∧ IsTup h a #[.ref ra, .int k.2 t1, .int i t2] ∧ IsTup h ra its ∧ IntsAre its.toList k.1
theorem T3.keeps {h h' : Heap} {v : Value} {k : List Int × Int} (x : T3 h v k) (kp : ∀ b o, h.get? b = some o → h'.get? b = some o) : T3 h' v k := by
  obtain ⟨a, ra, i, t1, t2, its, e, ⟨o, ho, hc⟩, ⟨o2, ho2, hc2⟩, q⟩ := x
  exact ⟨a, ra, i, t1, t2, its, e, ⟨o, kp _ _ ho, hc⟩, ⟨o2, kp _ _ ho2, hc2⟩, q⟩
theorem T3.keepsN {h h' : Heap} {v : Value} {k : List Int × Int} {I l : Addr} {j : Nat} (x : T3 h v k) (kp : ∀ b o, b ≠ I → h.get? b = some o → h'.get? b = some o) (hI : h.IsListIter I l j) : T3 h' v k := by
  obtain ⟨a, ra, i, t1, t2, its, e, ⟨o, ho, hc⟩, ⟨o2, ho2, hc2⟩, q⟩ := x
  obtain ⟨oI, hoI, hcI, _⟩ := hI
  have ne : ∀ b o, h.get? b = some o → o.cls = .type "tuple" → b ≠ I := fun b o hb hc z => by
    rw [z, hoI] at hb
    rw [← Option.some.inj hb, hcI] at hc
    exact absurd hc (by decide)
  exact ⟨a, ra, i, t1, t2, its, e, ⟨o, kp _ _ (ne _ _ ho hc.1) ho, hc⟩, ⟨o2, kp _ _ (ne _ _ ho2 hc2.1) ho2, hc2⟩, q⟩
theorem units_min {c : Args} : (Code.builtin "min.loop" c).cUnits ≤ 1 := Nat.le_of_eq rfl
theorem get_upd_list {h : Heap} {S : Addr} {xs : Array Value} {c : Nat} (f : Array Value → Array Value) (hS : h.get? S = some (seqObj "list" xs c)) : ∃ c', (h.update S (Obj.mapSeq f)).get? S = some (seqObj "list" (f xs) c') := by
  obtain ⟨objs, life⟩ := h
  have e : objs[S]? = some (seqObj "list" xs c) := by
    unfold Heap.get? at hS
    dsimp only at hS
    cases q : objs[S]? with
    | none =>
      rw [q] at hS
      exact nomatch hS
    | some o =>
      rw [q] at hS
      obtain ⟨cls, dd, data, sl⟩ := o
      cases data <;> first | exact hS | exact nomatch hS
  refine ⟨if (f xs).size == xs.size then c else c + 1, ?_⟩
  show Heap.get? ⟨objs.modify S (Obj.mapSeq f), life⟩ S = _
  unfold Heap.get?
  dsimp only
  rw [Array.getElem?_modify, if_pos rfl, e]
  rfl
def ltC (p q : List Int × Int) : Bool := if p.1 = q.1 then decide (p.2 < q.2) else HT.lexLt p.1 q.1
section
variable {prog : Program} {w : World} {A : Around} {E : Value → Shared → Prop} {s : Shared}
theorem argsOk_lt (a b : Addr) : argsOk "tuple.__lt__" { pos := [Value.ref a, Value.ref b] } := by
  rfl
theorem lt3 {v u : Value} {p q : List Int × Int} {Q : Value → Shared → Prop} (h1 : T3 s.heap v p) (h2 : T3 s.heap u q) (hne : p.2 ≠ q.2) (hu : A.units + 1 < cLine) (h : Q (.bool (ltC p q)) s) : wpAny (model prog w) A (richCompare CmpOp.Lt v u) Q E s := by
  obtain ⟨a, ra, i, t1, t2, its, rfl, ⟨o, ho, hc, n, hd⟩, b1, c1⟩ := h1
  obtain ⟨b, rb, i', u1, u2, jts, rfl, ⟨o', ho', hc', n', hd'⟩, b2, c2⟩ := h2
  obtain ⟨cls, dd, data, sl⟩ := o
  obtain ⟨cls', dd', data', sl'⟩ := o'
  dsimp only at hc hd hc' hd'
  subst hc hd hc' hd'
  refine richCompare_meets_room (T := "tuple") ⟨_, ho, rfl⟩ ⟨_, ho', rfl⟩ F.slot_tuple_lt F.entry_tuple_lt ?_ (meets_lt3 a b ra rb p.2 i q.2 i' t1 t2 u1 u2 n n' dd dd' sl sl' p.1 q.1 its jts) ⟨ho, ho', b1, b2, c1, c2, hu, hne, ?_⟩ (by omega)
  · exact argsOk_lt a b
  · show _
    exact ⟨fun z => (by cases z), h⟩
end
section
variable {prog : Program} {w : World} {A : Around} {s : Shared} {R : Result → Shared → Prop}
theorem min_step3 {l I S : Addr} {its : List Value} {k : Value → List Int × Int} {h : Heap} {tk j c : Nat} {v x : Value} (hu : A.units + 9 < cLine) (hv : T3 h v (k v)) (hx : T3 h x (k x)) (hne : (k x).2 ≠ (k v).2) (hIS : I ≠ S) (hIl : I ≠ l)
    (hl : h.IsList l its.toArray) (hj : its.toArray[j]? = some x) (hI : h.IsListIter I l j) (hS : h.get? S = some (seqObj "list" #[v, v] c)) (hkI : T3 (h.update S fun o => o) v (k v) → True)
    (hR : ∀ h' tk' v' c', (∀ b o, b ≠ I → b ≠ S → h.get? b = some o → h'.get? b = some o) → h'.IsListIter I l (j + 1) → h'.get? S = some (seqObj "list" #[v', v'] c') → v' = (if ltC (k x) (k v) then x else v) → codeAny (model prog w) A (Code.builtin "min.loop" { pos := [.ref I, .none, .ref S] }) R { s with heap := h', toks := tk' }) :
    codeAny (model prog w) A (Code.builtin "min.loop" { pos := [.ref I, .none, .ref S] }) R { s with heap := h, toks := tk } := by
  refine codeAny_builtin F.entry_min_loop ?_
  unfold Builtin.«min.loop»
  generalize hA' : A.under (Code.builtin "min.loop" { pos := [Value.ref I, Value.none, Value.ref S] }) = A'
  have hnx : ∀ {E : Value → Shared → Prop} {Q : Option Value → Shared → Prop} {kk : Value → Sem (Option Value)}, (∀ h' : Heap, h'.IsListIter I l (j + 1) → Heap.SameBut I h h' → Q (some x) { s with heap := h', toks := tk }) → wpAny (model prog w) A' (tryCatch (pyNext (Value.ref I)) kk) Q E { s with heap := h, toks := tk } := fun hq => wpAny_tryCatch (wpAny_pyNext_list_item (s := { s with heap := h, toks := tk }) hI hl hj hq)
  have hnx' : ∀ {E : Value → Shared → Prop} {kk : Value → Sem (Option Value)} {ft : Option Value → Sem Fin}, (∀ h' : Heap, h'.IsListIter I l (j + 1) → Heap.SameBut I h h' → wpAny (model prog w) A' (ft (some x)) (fun fin s' => match fin with | .done f => R (.ok f) s' | .again c' => c'.quiet = true ∧ codeAny (model prog w) A c' R s') E { s with heap := h', toks := tk }) → wpAny (model prog w) A' (tryCatch (pyNext (Value.ref I)) kk >>= ft) (fun fin s' => match fin with | .done f => R (.ok f) s' | .again c' => c'.quiet = true ∧ codeAny (model prog w) A c' R s') E { s with heap := h, toks := tk } := fun hq => wpAny_bind (hnx hq)
  refine wpAny_bind (wpAny_seqItems (s := { s with heap := h, toks := tk }) hS rfl ?_)
  refine hnx' fun h' hI' hsb => ?_
  have hkp : ∀ b o, b ≠ I → h.get? b = some o → h'.get? b = some o := fun b o n e => by rw [hsb.2 b n]; exact e
  have hv' : T3 h' v (k v) := hv.keepsN hkp hI
  have hx' : T3 h' x (k x) := hx.keepsN hkp hI
  have hS' : h'.get? S = some (seqObj "list" #[v, v] c) := hkp S _ hIS.symm hS
  have huA : A'.units + 1 < cLine := by
    rw [← hA']
    exact Nat.lt_of_le_of_lt (Nat.add_le_add_right (Nat.add_le_add_left units_min _) 1) (by omega)
  have hcmp : ∀ {E : Value → Shared → Prop} {Q : Bool → Shared → Prop} {kk : Value → Sem Bool}, Q (ltC (k x) (k v)) { s with heap := h', toks := tk } → wpAny (model prog w) A' (tryCatch (holding [x, x] (do
      let answer ← richCompare CmpOp.Lt x v
      let yes ← holding [answer] (truthy answer)
      letGo [answer]
      pure yes)) kk) Q E { s with heap := h', toks := tk } := fun hq => wpAny_tryCatch (wpAny_holding (wpAny_bind (lt3 (s := { s with heap := h', toks := tk }) hx' hv' hne huA (wpAny_bind (wpAny_holding (wpAny_truthy_bool (wpAny_bind (wpAny_letGo (wpAny_pure hq)))))))))
  refine wpAny_bind (wpAny_pure ?_)
  refine wpAny_bind (hcmp ?_)
  have kpS : ∀ f b o, b ≠ I → b ≠ S → h.get? b = some o → (h'.update S f).get? b = some o := fun f b o n1 n2 e => by
    rw [Heap.get?_update_ne _ _ _ _ n2]
    exact hkp b o n1 e
  cases hc : ltC (k x) (k v) with
  | true =>
    rw [if_pos rfl]
    refine wpAny_bind (wpAny_updateSeq (s := { s with heap := h', toks := tk }) hS' rfl (wpAny_bind (wpAny_letGo ?_)) (by show 2 ≤ sizeLine; decide) (by show 2 ≤ sizeLine + 1; decide))
    obtain ⟨c2, hc2⟩ := get_upd_list (fun _ => #[x, x]) hS'
    refine wpAny_pure (a := Fin.again _) ?_
    obtain ⟨oI, hoI, hcI, hdI⟩ := hI'
    refine ⟨rfl, hR _ tk x _ (kpS _) ⟨oI, ?_, hcI, hdI⟩ hc2 (by rw [hc, if_pos rfl])⟩
    rw [Heap.get?_update_ne _ _ _ _ hIS]
    exact hoI
  | false =>
    rw [if_neg (by decide)]
    refine wpAny_bind (wpAny_letGo ?_)
    refine wpAny_pure (a := Fin.again _) ?_
    exact ⟨rfl, hR _ tk v c (fun b o n1 n2 e => hkp b o n1 e) hI' hS' (by rw [hc, if_neg (by decide)])⟩
end
end PySem
set_option Elab.async false
set_option linter.all false
set_option maxRecDepth 100000
set_option maxHeartbeats 4000000
namespace PySem
open PySem.Spec PyProof.Rows
open Sem (wp)
open AutoSeq1 (wpAny_loadPart')
theorem ltC_no {p q : List Int × Int} : ltC p q = false ↔ HT.lexLt q.1 p.1 = true ∨ (p.1 = q.1 ∧ q.2 ≤ p.2) := by
  have tot : ∀ xs ys : List Int, HT.lexLt xs ys = false → HT.lexLt ys xs = false → xs = ys := by
    intro xs
    induction xs with
    | nil => intro ys h1 h2; cases ys with
      | nil => rfl
      | cons y ys => exact nomatch h1
    | cons x xs ih => intro ys h1 h2; cases ys with
      | nil => exact nomatch h2
      | cons y ys =>
        rw [HT.lexLt_cons] at h1 h2
        by_cases e : x = y
        · subst e
          rw [if_pos rfl] at h1 h2
          rw [ih ys h1 h2]
        · rw [if_neg e] at h1
          rw [if_neg (Ne.symm e)] at h2
          have a := of_decide_eq_false h1
          have b := of_decide_eq_false h2
          omega
  have irr : ∀ xs : List Int, HT.lexLt xs xs = false := by
    intro xs
    cases h : HT.lexLt xs xs with
    | false => rfl
    | true => exact absurd (h.symm.trans (NtL.lex_asym xs xs h)) (by decide)
  unfold ltC
  by_cases e : p.1 = q.1
  · rw [if_pos e, decide_eq_false_iff_not]
    constructor
    · intro h
      exact .inr ⟨e, by omega⟩
    · rintro (h | h)
      · rw [e, irr] at h
        exact nomatch h
      · omega
  · rw [if_neg e]
    constructor
    · intro h
      left
      cases h2 : HT.lexLt q.1 p.1 with
      | true => rfl
      | false => exact absurd (tot _ _ h h2) e
    · rintro (h | h)
      · exact NtL.lex_asym _ _ h
      · exact absurd h.1 e
theorem ltC_tr {a b c : List Int × Int} (h1 : ltC a b = false) (h2 : ltC b c = false) : ltC a c = false := by
  rw [ltC_no] at h1 h2 ⊢
  rcases h1 with h1 | ⟨e1, h1⟩
  · rcases h2 with h2 | ⟨e2, h2⟩
    · left
      cases h : HT.lexLt c.1 a.1 with
      | true => rfl
      | false =>
        have := NtL.lex_tr a.1 c.1 b.1 h (NtL.lex_asym _ _ h2)
        rw [h1] at this
        exact nomatch this
    · rw [← e2]
      exact .inl h1
  · rcases h2 with h2 | ⟨e2, h2⟩
    · rw [e1]
      exact .inl h2
    · exact .inr ⟨e1.trans e2, by omega⟩
theorem ltC_as {a b : List Int × Int} (h : ltC a b = true) : ltC b a = false := by
  cases h2 : ltC b a with
  | false => rfl
  | true =>
    unfold ltC at h h2
    by_cases e : a.1 = b.1
    · rw [if_pos e] at h
      rw [if_pos e.symm] at h2
      have := of_decide_eq_true h
      have := of_decide_eq_true h2
      omega
    · rw [if_neg e] at h
      rw [if_neg (Ne.symm e)] at h2
      rw [NtL.lex_asym _ _ h] at h2
      exact nomatch h2
section
variable {prog : Program} {w : World} {A : Around} {s : Shared} {R : Result → Shared → Prop}
theorem min_first3 {l I S : Addr} {its : List Value} {h : Heap} {tk c : Nat} {x : Value} (hIS : I ≠ S)
    (hl : h.IsList l its.toArray) (hj : its.toArray[0]? = some x) (hI : h.IsListIter I l 0) (hS : h.get? S = some (seqObj "list" #[] c))
    (hR : ∀ h' tk' c', (∀ b o, b ≠ I → b ≠ S → h.get? b = some o → h'.get? b = some o) → h'.IsListIter I l 1 → h'.get? S = some (seqObj "list" #[x, x] c') → codeAny (model prog w) A (Code.builtin "min.loop" { pos := [.ref I, .none, .ref S] }) R { s with heap := h', toks := tk' }) :
    codeAny (model prog w) A (Code.builtin "min.loop" { pos := [.ref I, .none, .ref S] }) R { s with heap := h, toks := tk } := by
  refine codeAny_builtin F.entry_min_loop ?_
  unfold Builtin.«min.loop»
  generalize hA' : A.under (Code.builtin "min.loop" { pos := [Value.ref I, Value.none, Value.ref S] }) = A'
  have hnx' : ∀ {E : Value → Shared → Prop} {kk : Value → Sem (Option Value)} {ft : Option Value → Sem Fin}, (∀ h' : Heap, h'.IsListIter I l 1 → Heap.SameBut I h h' → wpAny (model prog w) A' (ft (some x)) (fun fin s' => match fin with | .done f => R (.ok f) s' | .again c' => c'.quiet = true ∧ codeAny (model prog w) A c' R s') E { s with heap := h', toks := tk }) → wpAny (model prog w) A' (tryCatch (pyNext (Value.ref I)) kk >>= ft) (fun fin s' => match fin with | .done f => R (.ok f) s' | .again c' => c'.quiet = true ∧ codeAny (model prog w) A c' R s') E { s with heap := h, toks := tk } := fun hq => wpAny_bind (wpAny_tryCatch (wpAny_pyNext_list_item (s := { s with heap := h, toks := tk }) hI hl hj hq))
  refine wpAny_bind (wpAny_seqItems (s := { s with heap := h, toks := tk }) hS rfl ?_)
  refine hnx' fun h' hI' hsb => ?_
  have hkp : ∀ b o, b ≠ I → h.get? b = some o → h'.get? b = some o := fun b o n e => by rw [hsb.2 b n]; exact e
  have hS' : h'.get? S = some (seqObj "list" #[] c) := hkp S _ hIS.symm hS
  refine wpAny_bind (wpAny_pure ?_)
  refine wpAny_bind (wpAny_updateSeq (s := { s with heap := h', toks := tk }) hS' rfl ?_ (by show 0 ≤ sizeLine; decide) (by show 2 ≤ sizeLine + 1; decide))
  obtain ⟨c2, hc2⟩ := get_upd_list (fun _ => #[x, x]) hS'
  refine wpAny_pure (a := Fin.again _) ?_
  obtain ⟨oI, hoI, hcI, hdI⟩ := hI'
  refine ⟨rfl, hR _ tk _ (fun b o n1 n2 e => ?_) ⟨oI, ?_, hcI, hdI⟩ hc2⟩
  · rw [Heap.get?_update_ne _ _ _ _ n2]
    exact hkp b o n1 e
  · rw [Heap.get?_update_ne _ _ _ _ hIS]
    exact hoI
theorem min_end3 {l I S : Addr} {its : List Value} {h : Heap} {tk c : Nat} {v : Value} (hh : A.handled = none) (hIS : I ≠ S)
    (hl : h.IsList l its.toArray) (hI : h.IsListIter I l its.length) (hS : h.get? S = some (seqObj "list" #[v, v] c))
    (hR : ∀ h' tk', (∀ b o, b ≠ I → b ≠ S → h.get? b = some o → h'.get? b = some o) → R (.ok (.ret v)) { s with heap := h', toks := tk' }) :
    codeAny (model prog w) A (Code.builtin "min.loop" { pos := [.ref I, .none, .ref S] }) R { s with heap := h, toks := tk } := by
  refine codeAny_builtin F.entry_min_loop ?_
  unfold Builtin.«min.loop»
  have hhA : (A.under (Code.builtin "min.loop" { pos := [Value.ref I, Value.none, Value.ref S] })).handled = none := hh
  generalize hA' : A.under (Code.builtin "min.loop" { pos := [Value.ref I, Value.none, Value.ref S] }) = A' at hhA
  have hj : its.toArray[its.length]? = none := by simp
  have hnx' : ∀ {E : Value → Shared → Prop} {kk : Value → Sem (Option Value)} {ft : Option Value → Sem Fin}, (∀ h' : Heap, Heap.ExtBut I h h' → wpAny (model prog w) A' (ft none) (fun fin s' => match fin with | .done f => R (.ok f) s' | .again c' => c'.quiet = true ∧ codeAny (model prog w) A c' R s') E { s with heap := h', toks := tk }) → wpAny (model prog w) A' (tryCatch (pyNext (Value.ref I)) kk >>= ft) (fun fin s' => match fin with | .done f => R (.ok f) s' | .again c' => c'.quiet = true ∧ codeAny (model prog w) A c' R s') E { s with heap := h, toks := tk } := fun hq => wpAny_bind (wpAny_tryCatch (wpAny_pyNext_list_end (s := { s with heap := h, toks := tk }) hhA hI hl hj hq))
  refine wpAny_bind (wpAny_seqItems (s := { s with heap := h, toks := tk }) hS rfl ?_)
  refine hnx' fun h' hsb => ?_
  have hS' : h'.get? S = some (seqObj "list" #[v, v] c) := hsb S _ hIS.symm hS
  refine wpAny_bind (wpAny_updateSeq (s := { s with heap := h', toks := tk }) hS' rfl (wpAny_bind (wpAny_letGo ?_)) (by show 2 ≤ sizeLine; decide) (by show 0 ≤ sizeLine + 1; decide))
  refine wpAny_pure (a := Fin.done (.ret v)) ?_
  refine hR _ tk fun b o n1 n2 e => ?_
  rw [Heap.get?_update_ne _ _ _ _ n2]
  exact hsb b o n1 e
theorem min_loop3 {l I S : Addr} {its : List Value} {k : Value → List Int × Int} (hu : A.units + 9 < cLine) (hh : A.handled = none) (hk : ∀ v ∈ its, T3 s.heap v (k v)) (hne : its.Pairwise fun v u => (k v).2 ≠ (k u).2) (hIS : I ≠ S)
    (hl : s.heap.IsList l its.toArray) (hR : ∀ v h' tk, v ∈ its → (∀ u ∈ its, ltC (k u) (k v) = false) → (∀ b o, s.heap.get? b = some o → h'.get? b = some o) → R (.ok (.ret v)) { s with heap := h', toks := tk }) (hI0 : s.heap.get? I = none) (hS0 : s.heap.get? S = none) (hIl : I ≠ l) :
    ∀ (r j : Nat) (h : Heap) (tk : Nat) (v : Value) (c : Nat), its.length - j = r → j ≤ its.length → (∀ b o, s.heap.get? b = some o → h.get? b = some o) → h.IsListIter I l j → h.get? S = some (seqObj "list" #[v, v] c) →
      v ∈ its.take j → (∀ u ∈ its.take j, ltC (k u) (k v) = false) →
      codeAny (model prog w) A (Code.builtin "min.loop" { pos := [.ref I, .none, .ref S] }) R { s with heap := h, toks := tk } := by
  intro r
  induction r with
  | zero =>
    intro j h tk v c hr hj kp hI hS hv hmin
    obtain rfl : j = its.length := by omega
    rw [List.take_length] at hv hmin
    refine min_end3 (its := its) hh hIS ?_ hI hS fun h' tk' kp' => hR v h' tk' hv hmin fun b o e => kp' b o (fun z => by rw [z, hI0] at e; exact nomatch e) (fun z => by rw [z, hS0] at e; exact nomatch e) (kp b o e)
    obtain ⟨o, ho, hc⟩ := hl
    exact ⟨o, kp _ _ ho, hc⟩
  | succ r ih =>
    intro j h tk v c hr hj kp hI hS hv hmin
    have hjl : j < its.length := by omega
    have hx : its.toArray[j]? = some its[j] := by simp [hjl]
    have hvi : v ∈ its := List.mem_of_mem_take hv
    have hxi : its[j] ∈ its := List.getElem_mem hjl
    have hn : (k its[j]).2 ≠ (k v).2 := by
      obtain ⟨i, hi⟩ := List.mem_iff_getElem?.mp hv
      have hil := (List.getElem?_eq_some_iff.mp hi).1
      rw [List.length_take] at hil
      rw [List.getElem?_take_of_lt (by omega)] at hi
      obtain ⟨hi1, hi2⟩ := List.getElem?_eq_some_iff.mp hi
      have := List.pairwise_iff_getElem.mp hne i j hi1 hjl (by omega)
      rw [hi2] at this
      exact this.symm
    refine min_step3 (k := k) (its := its) hu ((hk v hvi).keeps kp) ((hk _ hxi).keeps kp) hn hIS hIl ?_ hx hI hS (fun _ => trivial) fun h' tk' v' c' kp' hI' hS' ev => ?_
    · obtain ⟨o, ho, hc⟩ := hl
      exact ⟨o, kp _ _ ho, hc⟩
    have kp2 : ∀ b o, s.heap.get? b = some o → h'.get? b = some o := fun b o e => kp' b o (fun z => by rw [z, hI0] at e; exact nomatch e) (fun z => by rw [z, hS0] at e; exact nomatch e) (kp b o e)
    have htk : its.take (j + 1) = its.take j ++ [its[j]] := by rw [List.take_succ_eq_append_getElem hjl]
    refine ih (j + 1) h' tk' v' c' (by omega) hjl kp2 hI' hS' ?_ ?_
    · rw [htk, ev]
      split
      · exact List.mem_append_right _ (List.mem_singleton.mpr rfl)
      · exact List.mem_append_left _ hv
    · intro u hu2
      rw [htk] at hu2
      rw [ev]
      rcases List.mem_append.mp hu2 with hu2 | hu2
      · split
        · rename_i hlt
          exact ltC_tr (hmin u hu2) (ltC_as hlt)
        · exact hmin u hu2
      · rw [List.mem_singleton.mp hu2]
        split
        · rw [ltC_no]
          exact .inr ⟨rfl, Int.le_refl _⟩
        · rename_i hlt
          cases z : ltC (k its[j]) (k v) with
          | true => exact absurd z hlt
          | false => rfl
end
theorem meets_min3 (l : Addr) (its : List Value) (k : Value → List Int × Int) : Meets (Builtin.min ⟨[.ref l], []⟩) (fun A R s =>
      0 < its.length ∧ A.units + 12 < cLine ∧ A.handled = none ∧ s.heap.IsList l its.toArray ∧ (∀ v ∈ its, T3 s.heap v (k v)) ∧ (its.Pairwise fun v u => (k v).2 ≠ (k u).2) ∧
      (∀ v h' tk, v ∈ its → (∀ u ∈ its, ltC (k u) (k v) = false) → (∀ b o, s.heap.get? b = some o → h'.get? b = some o) → R (.ok (.ret v)) { s with heap := h', toks := tk })) := by
  intro prog w A R s h
  obtain ⟨h0, hu, hh, hl, hk, hne, hR⟩ := h
  unfold Builtin.min
  wp_walk using wpAny_pyIter_list hl
  have hz : (s.heap.push { cls := Value.type "list_iterator", data := Data.fields #[Value.ref l, Value.int 0 0] }).objs.size = s.heap.objs.size + 1 := Heap.size_push ..
  rw [hz]
  show (Code.builtin "min.loop" { pos := [.ref s.heap.objs.size, .none, .ref (s.heap.objs.size + 1)] }).quiet = true ∧ codeAny (model prog w) A (Code.builtin "min.loop" { pos := [.ref s.heap.objs.size, .none, .ref (s.heap.objs.size + 1)] }) R { s with heap := (s.heap.push { cls := .type "list_iterator", data := .fields #[.ref l, .int 0 0] }).push { cls := .type "list", data := .seq #[] }, toks := s.toks }
  refine ⟨rfl, ?_⟩
  have g1 := Heap.get?_push_size s.heap (o := { cls := .type "list_iterator", data := .fields #[.ref l, .int 0 0] }) rfl
  have g2 := Heap.get?_push_size (s.heap.push { cls := .type "list_iterator", data := .fields #[.ref l, .int 0 0] }) (o := { cls := .type "list", data := .seq #[] }) rfl
  rw [hz] at g2
  have kp : ∀ b o, s.heap.get? b = some o → ((s.heap.push { cls := .type "list_iterator", data := .fields #[.ref l, .int 0 0] }).push { cls := .type "list", data := .seq #[] }).get? b = some o := fun b o e => Heap.get?_push_of_some _ (Heap.get?_push_of_some _ e)
  have gI := Heap.get?_push_of_some ({ cls := .type "list", data := .seq #[] } : Obj) g1
  have n1 : s.heap.get? s.heap.objs.size = none := by
    cases e : s.heap.get? s.heap.objs.size with
    | none => rfl
    | some o => exact absurd (Heap.lt_size e) (Nat.lt_irrefl _)
  have n2 : s.heap.get? (s.heap.objs.size + 1) = none := by
    cases e : s.heap.get? (s.heap.objs.size + 1) with
    | none => rfl
    | some o => exact absurd (Heap.lt_size e) (Nat.not_lt_of_le (Nat.le_add_right _ 1))
  have hll : s.heap.objs.size ≠ l := by
    obtain ⟨o, ho, _⟩ := hl
    exact fun z => absurd (Heap.lt_size ho) (by rw [← z]; exact Nat.lt_irrefl _)
  have hx : its.toArray[0]? = some (its[0]'h0) := by simp [h0]
  have hl2 : ((s.heap.push { cls := .type "list_iterator", data := .fields #[.ref l, .int 0 0] }).push { cls := .type "list", data := .seq #[] }).IsList l its.toArray := by
    obtain ⟨o, ho, hc⟩ := hl
    exact ⟨o, kp _ _ ho, hc⟩
  refine min_first3 (its := its) (Nat.ne_of_lt (Nat.lt_succ_self _)) hl2 hx ⟨_, gI, rfl, rfl⟩ g2 fun h' tk' c' kp' hI' hS' => ?_
  refine min_loop3 (s := s) (k := k) (its := its) (by omega) hh hk hne (Nat.ne_of_lt (Nat.lt_succ_self _)) hl hR n1 n2 hll _ 1 h' tk' _ c' rfl h0 (fun b o e => ?_) hI' hS' ?_ ?_
  · refine kp' b o (fun z => ?_) (fun z => ?_) (kp b o e)
    · rw [z, n1] at e
      exact nomatch e
    · rw [z, n2] at e
      exact nomatch e
  · rw [List.take_succ_eq_append_getElem h0]
    exact List.mem_append_right _ (List.mem_singleton.mpr rfl)
  · intro u hu2
    rw [List.take_succ_eq_append_getElem h0] at hu2
    have : u = its[0] := by simpa using hu2
    rw [this, ltC_no]
    exact .inr ⟨rfl, Int.le_refl _⟩
end PySem
namespace L2
open PySem PySem.Spec PyProof.Rows
/-! ### min(bag): triples (rank, number, number), the numbers amid unlike -/
def TriV (K : PySem.W.Frag) (H : Hp) (x : V) (k : List Int × Int) : Prop := ∃ (a ra : Addr) (i : Int), x = .ref a ∧ SqT K H a [.ref ra, .int k.2, .int i] ∧ SqT K H ra (k.1.map V.int)
def toValR : V → Value | .ref a => .ref a | _ => .none
theorem vals_ref : ∀ {ys : List V} {its : List Value}, Vals ys its → (∀ y ∈ ys, ∃ a, y = .ref a) → its = ys.map toValR
  | _, _, .nil, _ => rfl
  | y :: ys, u :: us, .cons r t, h => by
    obtain ⟨a, rfl⟩ := h y (List.mem_cons_self ..)
    have e : u = .ref a := r
    rw [e, vals_ref t fun z hz => h z (List.mem_cons_of_mem _ hz)]
    rfl
theorem ints_vals3 : ∀ {ns : List Int} {us : List Value}, Vals (ns.map V.int) us → IntsAre us ns
  | [], _, h => by
    cases h
    exact .nil
  | n :: ns, _, h => by
    cases h with
    | cons r t =>
      obtain ⟨tk, rfl⟩ := r
      exact .cons n tk (ints_vals3 t)
def rMin3 (K : PySem.W.Frag) : List V → Hp → VK → Prop := fun vs H Q => ∃ (l : Addr) (xs : List V) (ks : List (List Int × Int)), vs = [.ref l] ∧ SqL K H l xs ∧ 0 < xs.length ∧ Paired (TriV K H) xs ks ∧ (ks.Pairwise fun x y => x.2 ≠ y.2) ∧
  ∀ (i : Nat) x kx, xs[i]? = some x → ks[i]? = some kx → (∀ ky ∈ ks, ltC ky kx = false) → Q x H
theorem paired_at {α β : Type} {F : α → β → Prop} : ∀ {a : List α} {b : List β}, Paired F a b → ∀ {i : Nat} {x : α}, a[i]? = some x → ∃ y, b[i]? = some y ∧ F x y
  | _, _, .nil, i, x, h => by simp at h
  | _, _, .cons r t, 0, x, h => by
    have : _ = x := Option.some.inj h
    subst this
    exact ⟨_, rfl, r⟩
  | _, _, .cons r t, i + 1, x, h => by
    obtain ⟨y, h1, h2⟩ := paired_at t (i := i) (x := x) (by simpa using h)
    exact ⟨y, by simpa using h1, h2⟩
theorem paired_len {α β : Type} {F : α → β → Prop} : ∀ {a : List α} {b : List β}, Paired F a b → a.length = b.length
  | _, _, .nil => rfl
  | _, _, .cons _ t => congrArg (· + 1) (paired_len t)
theorem t3_fun {h : Heap} {v : Value} {p q : List Int × Int} (a : T3 h v p) (b : T3 h v q) : p.2 = q.2 := by
  obtain ⟨a1, ra, i, t1, t2, its, rfl, ⟨o, ho, hc, n, hd⟩, _⟩ := a
  obtain ⟨b1, rb, i', u1, u2, jts, e, ⟨o', ho', hc', n', hd'⟩, _⟩ := b
  injection e with e
  subst e
  rw [ho] at ho'
  obtain rfl := Option.some.inj ho'
  rw [hd] at hd'
  injection hd' with hd' _
  have := congrArg (fun x : Array Value => x[1]?) hd'
  simp at this
  exact this.1
theorem cr_min3 {X : Cx} (hc : X.calm = true) (hu : X.A.units + 65 < cLine) : CallR X (.builtin "min") (rMin3 X.K) := by
  intro pins s σ H xs us Q I r h
  obtain ⟨l, ys, ks, rfl, hl, h0, hk, hne, q⟩ := h
  cases r with
  | cons r rr =>
  cases rr
  cases r
  obtain ⟨its, rv, p, _⟩ := I.list hl
  have hlen := rv.length
  have hkl := paired_len hk
  have hits : its = ys.map toValR := vals_ref rv fun x hx => by
    obtain ⟨i, hi⟩ := List.mem_iff_getElem?.mp hx
    obtain ⟨kx, _, a, ra, j, e, _⟩ := paired_at hk hi
    exact ⟨a, e⟩
  subst hits
  have hk3 : ∀ (i : Nat) y kx, ys[i]? = some y → ks[i]? = some kx → T3 s.heap (toValR y) kx := fun i y kx hy hx => by
    obtain ⟨kx', e, a, ra, j, rfl, h1, h2⟩ := paired_at hk hy
    rw [hx] at e
    obtain rfl := Option.some.inj e
    obtain ⟨is1, r1, p1, _⟩ := I.tuple h1
    obtain ⟨is2, r2, p2, _⟩ := I.tuple h2
    cases r1 with
    | cons q1 r1 =>
    cases r1 with
    | cons q2 r1 =>
    cases r1 with
    | cons q3 r1 =>
    cases r1
    cases q1
    obtain ⟨t2, rfl⟩ := q2
    obtain ⟨t3, rfl⟩ := q3
    exact ⟨a, ra, j, t2, t3, is2.toArray, rfl, p1, p2, ints_vals3 r2⟩
  have hval : ∀ (i : Nat) v, (ys.map toValR)[i]? = some v → ∃ kx, ks[i]? = some kx ∧ T3 s.heap v kx := fun i v hv => by
    rw [List.getElem?_map] at hv
    obtain ⟨y, hy, rfl⟩ := Option.map_eq_some_iff.mp hv
    obtain ⟨kx, e, _⟩ := paired_at hk hy
    exact ⟨kx, e, hk3 i y kx hy e⟩
  have hinj : ∀ (i j : Nat) v, (ys.map toValR)[i]? = some v → (ys.map toValR)[j]? = some v → i = j := fun i j v hi hj => by
    obtain ⟨ki, e1, t1⟩ := hval i v hi
    obtain ⟨kj, e2, t2⟩ := hval j v hj
    have e := t3_fun t1 t2
    obtain ⟨l1, g1⟩ := List.getElem?_eq_some_iff.mp e1
    obtain ⟨l2, g2⟩ := List.getElem?_eq_some_iff.mp e2
    rcases Nat.lt_trichotomy i j with z | z | z
    · have := List.pairwise_iff_getElem.mp hne i j l1 l2 z
      rw [g1, g2] at this
      exact absurd e this
    · exact z
    · have := List.pairwise_iff_getElem.mp hne j i l2 l1 z
      rw [g1, g2] at this
      exact absurd e.symm this
  classical
  let kk : Value → List Int × Int := fun v => if h : ∃ i, (ys.map toValR)[i]? = some v then ks.getD (Classical.choose h) ([], 0) else ([], 0)
  have hkk : ∀ (i : Nat) v kx, (ys.map toValR)[i]? = some v → ks[i]? = some kx → kk v = kx := fun i v kx hv hx => by
    have h : ∃ i, (ys.map toValR)[i]? = some v := ⟨i, hv⟩
    have e : Classical.choose h = i := hinj _ _ v (Classical.choose_spec h) hv
    show (if h : ∃ i, (ys.map toValR)[i]? = some v then ks.getD (Classical.choose h) ([], 0) else ([], 0)) = kx
    rw [dif_pos h, e, List.getD_eq_getElem?_getD, hx]
    rfl
  refine call_function_meets (by rfl) (by rfl) F.entry_min (by rfl) (meets_min3 l (ys.map toValR) kk) ⟨by rw [List.length_map]; exact h0, by omega, I.ok.hd hc, p.isList, fun v hv => ?_, ?_, fun v h' tk hv hmin kp => ?_⟩
  · obtain ⟨i, hi⟩ := List.mem_iff_getElem?.mp hv
    obtain ⟨kx, e, t⟩ := hval i v hi
    rw [hkk i v kx hi e]
    exact t
  · refine List.pairwise_iff_getElem.mpr fun i j hi hj hij => ?_
    obtain ⟨ki, e1, _⟩ := hval i _ (List.getElem?_eq_getElem hi)
    obtain ⟨kj, e2, _⟩ := hval j _ (List.getElem?_eq_getElem hj)
    rw [hkk i _ ki (List.getElem?_eq_getElem hi) e1, hkk j _ kj (List.getElem?_eq_getElem hj) e2]
    obtain ⟨l1, g1⟩ := List.getElem?_eq_some_iff.mp e1
    obtain ⟨l2, g2⟩ := List.getElem?_eq_some_iff.mp e2
    have := List.pairwise_iff_getElem.mp hne i j l1 l2 hij
    rw [g1, g2] at this
    exact this
  · obtain ⟨i, hi⟩ := List.mem_iff_getElem?.mp hv
    obtain ⟨kx, e, t⟩ := hval i v hi
    have hi2 := hi
    rw [List.getElem?_map] at hi2
    obtain ⟨y, hy, ey⟩ := Option.map_eq_some_iff.mp hi2
    refine ⟨y, H, I.kept (t' := tk) kp, ?_, q i y kx hy e fun kz hz => ?_⟩
    · obtain ⟨_, _, a, ra, j, rfl, _⟩ := paired_at hk hy
      exact ey.symm
    · obtain ⟨j, hj⟩ := List.mem_iff_getElem?.mp hz
      have hjl := (List.getElem?_eq_some_iff.mp hj).1
      have hyj : (ys.map toValR)[j]? = some ((ys.map toValR)[j]'(by rw [List.length_map]; omega)) := List.getElem?_eq_getElem _
      have := hmin _ (List.mem_of_getElem? hyj)
      rw [hkk j _ kz hyj hj, hkk i v kx hi e] at this
      exact this
end L2
set_option Elab.async false
set_option linter.all false
set_option maxRecDepth 100000
set_option maxHeartbeats 4000000
namespace PySem
open PySem.Spec PyProof.Rows
open Sem (wp)
open AutoSeq1 (wpAny_loadPart')
theorem entry_remove_loop : entryFor table "list.remove.loop" = some Builtin.«list.remove.loop» := by rfl

theorem quiet_remove (args : Args) : (Code.builtin "list.remove.loop" args).quiet = true := by
  unfold Code.quiet Thread.loud
  have : "list.remove.loop".startsWith "lifetime." = false := by decide +kernel
  simp [Thread.atCollectorCode, Thread.yieldsInsideHandler, this]
section
variable {prog : Program} {w : World} {A : Around} {s : Shared} {R : Result → Shared → Prop}
theorem remove_loop {l : Addr} {items : Array Value} {n : Nat} {x : Value} {e : Nat → Bool} {j : Nat} (hj : j < items.size) (hjt : e j = true) (hl : s.heap.get? l = some { cls := .type "list", data := .seq items n }) (he : ∀ (m : Nat) (hm : m < items.size), SeqAt.EqAt (A.under (Code.builtin "list.remove.loop" { pos := [] })) s items[m] x (e m)) (hsz : items.size ≤ sizeLine)
    (hR : R (.ok (.ret .none)) { s with heap := s.heap.update l (Obj.mapSeq fun y => y.eraseIdxIfInBounds j) }) :
    ∀ (k i : Nat), j - i = k → i ≤ j → (∀ m (hm : m < items.size), i ≤ m → m < j → e m = false) →
      codeAny (model prog w) A (Code.builtin "list.remove.loop" { pos := [.ref l, x, rawInt (i : Nat)] }) R s := by
  intro k
  induction k with
  | zero =>
    intro i hk hi hno
    obtain rfl : i = j := by omega
    refine codeAny_builtin entry_remove_loop ?_
    unfold Builtin.«list.remove.loop»
    have heq : ∀ {E : Value → Shared → Prop} {Q : Bool → Shared → Prop}, Q true s → wpAny (model prog w) (A.under (Code.builtin "list.remove.loop" { pos := [.ref l, x, rawInt (i : Nat)] })) (eqBool items[i] x) Q E s := fun {E} {Q} h => he i hj prog w E Q (by rw [hjt]; exact h)
    have hx : items[i]? = some items[i] := Array.getElem?_eq_getElem hj
    wp_walk using wpAny_loadPart' hl, heq
    rw [Int.toNat_natCast, hx]
    refine wpAny_bind (heq ?_)
    rw [if_pos rfl]
    refine wpAny_bind (wpAny_updateSeq hl rfl ?_ hsz ?_)
    · refine wpAny_pure (a := Fin.done (.ret .none)) ?_
      exact hR
    · have : (items.eraseIdxIfInBounds i).size ≤ items.size := by
        rw [Array.eraseIdxIfInBounds, dif_pos hj, Array.size_eraseIdx]
        omega
      exact Nat.le_trans (Nat.le_trans this hsz) (Nat.le_succ _)
  | succ k ih =>
    intro i hk hi hno
    have him : i < items.size := by omega
    refine codeAny_builtin entry_remove_loop ?_
    unfold Builtin.«list.remove.loop»
    have heq : ∀ {E : Value → Shared → Prop} {Q : Bool → Shared → Prop}, Q false s → wpAny (model prog w) (A.under (Code.builtin "list.remove.loop" { pos := [.ref l, x, rawInt (i : Nat)] })) (eqBool items[i] x) Q E s := fun {E} {Q} h => he i him prog w E Q (by rw [hno i him (Nat.le_refl _) (by omega)]; exact h)
    have hx : items[i]? = some items[i] := Array.getElem?_eq_getElem him
    wp_walk using wpAny_loadPart' hl, heq
    rw [Int.toNat_natCast, hx]
    refine wpAny_bind (heq ?_)
    rw [if_neg (by decide)]
    refine wpAny_pure (a := Fin.again _) ?_
    refine ⟨quiet_remove _, ?_⟩
    have := ih (i + 1) (by omega) (by omega) fun m hm h1 h2 => hno m hm (by omega) h2
    exact this
end
theorem meets_remove (l : Addr) (items : Array Value) (n : Nat) (x : Value) (e : Nat → Bool) (j : Nat) (hj : j < items.size) (hjt : e j = true) (hno : ∀ m (hm : m < items.size), m < j → e m = false) (hsz : items.size ≤ sizeLine) : Meets (Builtin.«list.remove» ⟨[.ref l, x], []⟩) (fun A R s =>
      s.heap.get? l = some { cls := .type "list", data := .seq items n } ∧ (∀ (m : Nat) (hm : m < items.size), SeqAt.EqAt (A.under (Code.builtin "list.remove.loop" { pos := [] })) s items[m] x (e m)) ∧
      R (.ok (.ret .none)) { s with heap := s.heap.update l (Obj.mapSeq fun y => y.eraseIdxIfInBounds j) }) := by
  intro prog w A R s h
  obtain ⟨hl, he, hR⟩ := h
  unfold Builtin.«list.remove»
  wp_walk using wpAny_loadPart' hl
  show (Code.builtin "list.remove.loop" { pos := [Value.ref l, x, rawInt 0] }).quiet = true ∧ codeAny (model prog w) A (Code.builtin "list.remove.loop" { pos := [Value.ref l, x, rawInt ((0 : Nat) : Int)] }) R s
  exact ⟨quiet_remove _, remove_loop (s := s) hj hjt hl he hsz hR _ 0 rfl (Nat.zero_le _) fun m hm _ h => hno m hm h⟩
end PySem
namespace L2
open PySem PySem.Spec PyProof.Rows
/-! ### xs.remove(y): nested data -/
def rRemD (K : PySem.W.Frag) : V → List V → Hp → VK → Prop := fun x vs H Q => ∃ (l : Addr) (xs : List V) (y : V) (ds : List PyData) (d : PyData) (j : Nat) (z : PyData), x = .ref l ∧ vs = [y] ∧ H l = some (.lst xs) ∧ DpAll K H xs ds ∧ Dp K H y d ∧ (∀ e ∈ ds, SeqAt.shaped e = true) ∧ SeqAt.shaped d = true ∧
  ds[j]? = some z ∧ PyData.eqv z d = true ∧ (∀ (m : Nat) (z' : PyData), m < j → ds[m]? = some z' → PyData.eqv z' d = false) ∧ Q .non (upd H l (.lst (xs.eraseIdx j)))
theorem shaped2 {d : PyData} (h : SeqAt.shaped d = true) : d.canLay0 = true ∧ d.depth ≤ 64 := by
  unfold SeqAt.shaped at h
  rw [Bool.and_eq_true] at h
  exact ⟨h.1, of_decide_eq_true h.2⟩
theorem dp_get {X : Cx} {pins : List (Addr × Obj)} {σ : L2.St} {H : Hp} {s : Shared} (I : L2.Inv X pins σ H s) : ∀ {xs : List V} {ds : List PyData} {its : List Value}, DpAll X.K H xs ds → Vals xs its → ∀ (i : Nat) (u : Value), its[i]? = some u → ∃ e as, ds[i]? = some e ∧ Reads s.heap u e as
  | _, _, _, .nil, .nil, i, u, h => by simp at h
  | _, _, _, .cons a t, .cons r rr, 0, u, h => by
    obtain ⟨as, q⟩ := Dp.reads I _ _ _ a r
    have : _ = u := Option.some.inj h
    subst this
    exact ⟨_, as, rfl, q⟩
  | _, _, _, .cons a t, .cons r rr, i + 1, u, h => dp_get I t rr i u (by simpa using h)
theorem vals_erase : ∀ {xs : List V} {its : List Value} (j : Nat), Vals xs its → Vals (xs.eraseIdx j) (its.eraseIdx j)
  | _, _, _, .nil => .nil
  | _, _, 0, .cons _ t => t
  | _, _, j + 1, .cons r t => .cons r (vals_erase j t)
theorem mt_removeD {X : Cx} (hu : X.A.units + 70 < cLine) : MtM X "list.remove" (rRemD X.K) := by
  intro pins s σ H x xs v us Q I rx rxs h
  obtain ⟨l, ys, y, ds, d, j, z, rfl, rfl, hl, hds, hd, hsh, hsd, hj, hz, hno, q⟩ := h
  cases rx
  cases rxs with
  | @cons _ u _ _ ry rr =>
  cases rr
  obtain ⟨its, n, rv, hh, hlen⟩ := I.lst hl
  have e1 := rv.length
  obtain ⟨as, rd⟩ := Dp.reads I _ _ _ hd ry
  have hjd := (List.getElem?_eq_some_iff.mp hj).1
  have e2 : ds.length = ys.length := by
    have : ∀ {a : List V} {b : List PyData}, DpAll X.K H a b → b.length = a.length := by
      intro a
      induction a with
      | nil => intro b h; cases h; rfl
      | cons a1 a ih => intro b h; cases h with | cons _ t => exact congrArg (· + 1) (ih t)
    exact this hds
  have hji : j < its.toArray.size := by rw [List.size_toArray]; omega
  obtain ⟨sd1, sd2⟩ := shaped2 hsd
  let e : Nat → Bool := fun m => match ds[m]? with | some dd => PyData.eqv dd d | none => false
  refine call_meets (T := "list") F.slot_list_remove ⟨_, hh, rfl⟩ F.entry_list_remove (by rfl) (meets_remove l its.toArray n u e j hji (by
      show (match ds[j]? with | some dd => PyData.eqv dd d | none => false) = true
      rw [hj]
      exact hz) (fun m hm hmj => by
      show (match ds[m]? with | some dd => PyData.eqv dd d | none => false) = false
      cases q : ds[m]? with
      | none => rfl
      | some dd => exact hno m dd hmj q) (by rw [List.size_toArray]; omega)) ⟨hh, fun m hm => ?_, ?_⟩
  · have hm' : m < its.length := by rw [List.size_toArray] at hm; exact hm
    obtain ⟨dd, bs, g1, g2⟩ := dp_get I hds rv m its[m] (List.getElem?_eq_getElem hm')
    obtain ⟨s1, s2⟩ := shaped2 (hsh dd (List.mem_of_getElem? g1))
    have := SeqAt.eqAt_reads dd d (X.A.under (Code.builtin "list.remove.loop" { pos := [] })) s its[m] u bs as g2 rd s1 sd1 (by
      have hun : (X.A.under (Code.builtin "list.remove.loop" { pos := [] })).units = X.A.units + 1 := rfl
      rw [hun]
      have := Nat.min_le_right dd.depth d.depth
      omega)
    show SeqAt.EqAt _ s its.toArray[m] u (match ds[m]? with | some dd => PyData.eqv dd d | none => false)
    rw [g1]
    simpa using this
  · refine ⟨.non, _, I.lstUpd (n' := n + 1) hl hh ?_ (vals_erase j rv) (by rw [List.length_eraseIdx]; split <;> omega) s.toks, rfl, q⟩
    have ha : its.toArray.eraseIdxIfInBounds j = (its.eraseIdx j).toArray := by simp
    show Obj.mapSeq (fun y => y.eraseIdxIfInBounds j) { cls := .type "list", data := .seq its.toArray n } = _
    unfold Obj.mapSeq
    dsimp only
    rw [ha]
    have hs : ((its.eraseIdx j).toArray.size == its.toArray.size) = false := by
      rw [List.size_toArray, List.size_toArray, List.length_eraseIdx, if_pos (by rw [List.size_toArray] at hji; exact hji)]
      rw [List.size_toArray] at hji
      exact beq_false_of_ne (by omega)
    rw [hs]
    rfl
end L2
set_option Elab.async false
set_option linter.all false
set_option maxRecDepth 100000
set_option maxHeartbeats 8000000
namespace K26
open PySem PySem.Spec PyProof.Rows L2 Dt
/-! ### the law's own tree: mathematics -/
theorem valV_putG {κ : Type} [DecidableEq κ] (k k' : κ) (v : V) (kvs : List (κ × V)) : valV (putK kvs k v) k' = if k' = k then some v else valV kvs k' := by
  unfold putK
  by_cases h : (kvs.any fun kv => decide (kv.1 = k)) = true
  · rw [if_pos h]
    revert h
    induction kvs with
    | nil => exact fun h => nomatch h
    | cons e kvs ih =>
      obtain ⟨k0, v0⟩ := e
      intro h
      unfold valV
      rw [List.map_cons]
      by_cases e : k0 = k
      · subst e
        dsimp only
        rw [if_pos rfl]
        by_cases z : k' = k0
        · subst z
          rw [if_pos rfl, List.find?_cons_of_pos (by simp)]
          rfl
        · rw [if_neg z, List.find?_cons_of_neg (by simpa using Ne.symm z), List.find?_cons_of_neg (by simpa using Ne.symm z)]
          have : ∀ l : List (κ × V), (l.map fun kv => if kv.1 = k0 then (kv.1, v) else kv).find? (fun kv => decide (kv.1 = k')) = l.find? (fun kv => decide (kv.1 = k')) := by
            intro l
            induction l with
            | nil => rfl
            | cons y l ih2 =>
              rw [List.map_cons]
              by_cases q : y.1 = k0
              · rw [if_pos q, List.find?_cons_of_neg (by simp [q]; exact Ne.symm z), List.find?_cons_of_neg (by simp [q]; exact Ne.symm z), ih2]
              · rw [if_neg q]
                by_cases q2 : y.1 = k'
                · rw [List.find?_cons_of_pos (by simpa using q2), List.find?_cons_of_pos (by simpa using q2)]
                · rw [List.find?_cons_of_neg (by simpa using q2), List.find?_cons_of_neg (by simpa using q2), ih2]
          rw [this]
      · dsimp only
        rw [if_neg e]
        rw [List.any_cons, decide_eq_false e, Bool.false_or] at h
        have ih := ih h
        unfold valV at ih
        by_cases z : k0 = k'
        · subst z
          rw [List.find?_cons_of_pos (by simp), List.find?_cons_of_pos (by simp), if_neg e]
        · rw [List.find?_cons_of_neg (by simpa using z), List.find?_cons_of_neg (by simpa using z), ih]
  · rw [if_neg h]
    unfold valV
    rw [List.find?_append]
    by_cases z : k' = k
    · subst z
      rw [if_pos rfl]
      have : kvs.find? (fun kv => decide (kv.1 = k')) = none := by
        rw [List.find?_eq_none]
        intro y hy q
        exact h (List.any_eq_true.mpr ⟨y, hy, q⟩)
      rw [this]
      simp
    · rw [if_neg z]
      have : ([(k, v)] : List (κ × V)).find? (fun kv => decide (kv.1 = k')) = none := by
        rw [List.find?_cons_of_neg (by simpa using Ne.symm z)]
        rfl
      rw [this, Option.or_none]
def upI (T : Dt) (q : Ad) : Int := if q = [] then -1 else (T.idx q.dropLast : Nat)
def whI (q : Ad) : Int := match q.getLast? with | some i => (i : Nat) | none => 0
theorem upI_snoc (T : Dt) (q : Ad) (j : Nat) : upI T (q ++ [j]) = (T.idx q : Nat) := by
  unfold upI
  rw [if_neg (by simp), List.dropLast_concat]
theorem whI_snoc (q : Ad) (j : Nat) : whI (q ++ [j]) = (j : Nat) := by
  unfold whI
  rw [List.getLast?_concat]
def keyK (T : Dt) (q : Ad) : List Key := [Sum.inl (upI T q), Sum.inl (whI q)]
theorem key_inj {T : Dt} {p q : Ad} (hp : p ∈ ad T) (hq : q ∈ ad T) (h : keyK T p = keyK T q) : p = q := by
  unfold keyK at h
  injection h with h1 h2
  injection h2 with h2 _
  have h1 := Sum.inl.inj h1
  have h2 := Sum.inl.inj h2
  rcases List.eq_nil_or_concat p with rfl | ⟨p', i, rfl⟩
  · rcases List.eq_nil_or_concat q with rfl | ⟨q', j, rfl⟩
    · rfl
    · rw [List.concat_eq_append, upI_snoc] at h1
      unfold upI at h1
      rw [if_pos rfl] at h1
      omega
  · rcases List.eq_nil_or_concat q with rfl | ⟨q', j, rfl⟩
    · rw [List.concat_eq_append, upI_snoc] at h1
      unfold upI at h1
      rw [if_pos rfl] at h1
      omega
    · simp only [List.concat_eq_append] at hp hq h1 h2 ⊢
      rw [upI_snoc, upI_snoc] at h1
      rw [whI_snoc, whI_snoc] at h2
      have e := idx_inj (pre_ad hp (List.prefix_append ..)) (pre_ad hq (List.prefix_append ..)) (by omega)
      have e2 : i = j := by omega
      rw [e, e2]
/-- all nodes beneath those that wait -/
def pblk (T : Dt) : List Ad → List Ad
  | [] => []
  | q :: r => (match sub T q with | some u => (ad u).map (q ++ ·) | none => []) ++ pblk T r
theorem pblk_app (T : Dt) : ∀ a b : List Ad, pblk T (a ++ b) = pblk T a ++ pblk T b
  | [], _ => rfl
  | q :: a, b => by
    show _ ++ pblk T (a ++ b) = (_ ++ pblk T a) ++ pblk T b
    rw [pblk_app T a b, List.append_assoc]
def kidsA (q : Ad) (n : Nat) : List Ad := (List.range n).map fun j => q ++ [j]
theorem pblk_kids {T u : Dt} {q : Ad} (h : sub T q = some u) : ∀ n, n ≤ u.len → pblk T (kidsA q n) = (rowsN ad u n).map (q ++ ·)
  | 0, _ => rfl
  | n + 1, hn => by
    obtain ⟨k, hk⟩ := kid_of (show n < u.len by omega)
    unfold kidsA
    rw [List.range_succ, List.map_append, pblk_app]
    have ih := pblk_kids h n (by omega)
    unfold kidsA at ih
    rw [ih, rowsN_succ ad hk q]
    have e : sub T (q ++ [n]) = some k := by
      rw [(sub_app T q u h [n]).1, sub_one, hk]
    show _ ++ ((match sub T (q ++ [n]) with | some u => (ad u).map ((q ++ [n]) ++ ·) | none => []) ++ []) = _
    rw [e, List.append_nil]
theorem pblk_pop {T u : Dt} {q : Ad} {r : List Ad} (h : sub T q = some u) : pblk T (q :: r) = q :: pblk T (kidsA q u.len ++ r) := by
  rw [pblk_app, pblk_kids h _ (Nat.le_refl _)]
  show (match sub T q with | some u => (ad u).map (q ++ ·) | none => []) ++ _ = _
  rw [h]
  show (([] :: adF u).map (q ++ ·)) ++ pblk T r = _
  rw [List.map_cons, List.append_nil, adF_rows]
  rfl
theorem pblk_ne {T : Dt} {pend : List Ad} (h : ∀ q ∈ pend, ∃ u, sub T q = some u) (e : pblk T pend = []) : pend = [] := by
  cases pend with
  | nil => rfl
  | cons q r =>
    obtain ⟨u, hu⟩ := h q (List.mem_cons_self ..)
    rw [pblk_pop hu] at e
    exact nomatch e
end K26
set_option Elab.async false
set_option linter.all false
set_option maxRecDepth 100000
set_option maxHeartbeats 8000000
namespace K26
open PySem PySem.Spec PyProof.Rows L2 Dt
/-! ### _law_tree -/
theorem len_idx : ∀ (T : Dt) (q : Ad) (u : Dt), sub T q = some u → q.length ≤ T.idx q
  | _, [], _, _ => Nat.zero_le _
  | .x, j :: p, _, h => by rw [sub_x] at h; exact nomatch h
  | .o, j :: p, _, h => by rw [sub_o] at h; exact nomatch h
  | .c k r, 0 :: p, u, h => by
    rw [sub_c0] at h
    rw [idx_c0]
    have := len_idx k p u h
    show p.length + 1 ≤ _
    omega
  | .c k r, (j + 1) :: p, u, h => by
    rw [sub_cs] at h
    rw [idx_cs]
    have := len_idx r (j :: p) u h
    have : p.length + 1 ≤ r.idx (j :: p) := this
    show p.length + 1 ≤ _
    omega
structure LawT (K : PySem.W.Frag) (H : Hp) (tr : Addr) (T : Dt) : Prop where
  ex : ∃ (nl kd pl : Addr) (ns ps : List V) (kvs : List (List Key × V)), H tr = some (.lst [.ref nl, .ref kd, .ref pl]) ∧ H nl = some (.lst ns) ∧ ns.length = T.nodes ∧
    (∀ q u, sub T q = some u → ∃ b, ns[T.idx q]? = some (.ref b) ∧ H b = some (.tup [.int (upI T q), .int (whI q), .int (u.len : Nat)])) ∧
    H kd = some (.dT kvs) ∧ (∀ q j, q ++ [j] ∈ ad T → valV kvs [Sum.inl ((T.idx q : Nat) : Int), Sum.inl ((j : Nat) : Int)] = some (.int (T.idx (q ++ [j]) : Nat))) ∧
    H pl = some (.lst ps) ∧ ps.length = T.lf ∧ (∀ (i : Nat) p, (lv T)[i]? = some p → ∃ b, ps[i]? = some (.ref b) ∧ H b = some (.lst (pth T p (p.length + 1))))
theorem LawT.same {K : PySem.W.Frag} {H H' : Hp} {tr : Addr} {T : Dt} (t : LawT K H tr T) (e : Same H H') : LawT K H' tr T := by
  obtain ⟨nl, kd, pl, ns, ps, kvs, h1, h2, h3, h4, h5, h6, h7, h8, h9⟩ := t.ex
  refine ⟨nl, kd, pl, ns, ps, kvs, e _ _ h1, e _ _ h2, h3, fun q u hq => ?_, e _ _ h5, h6, e _ _ h7, h8, fun i p hi => ?_⟩
  · obtain ⟨b, g1, g2⟩ := h4 q u hq
    exact ⟨b, g1, e _ _ g2⟩
  · obtain ⟨b, g1, g2⟩ := h9 i p hi
    exact ⟨b, g1, e _ _ g2⟩
structure TI (K : PySem.W.Frag) (H0 H : Hp) (nl kd pl td : Addr) (T : Dt) (done pend : List Ad) : Prop where
  sm : Same H0 H
  sp : ad T = done ++ pblk T pend
  ok : ∀ q ∈ pend, ∃ u, sub T q = some u
  nn : ∃ ns, H nl = some (.lst ns) ∧ Paired (fun v q => ∃ u b, sub T q = some u ∧ v = V.ref b ∧ offS [nl, kd, pl, td] H b = some (.tup [.int (upI T q), .int (whI q), .int (u.len : Nat)])) ns done
  kk : ∃ kvs : List (List Key × V), H kd = some (.dT kvs) ∧ kvs.length ≤ done.length ∧ ∀ q ∈ done, valV kvs (keyK T q) = some (.int (T.idx q : Nat))
  pp : ∃ ps, H pl = some (.lst ps) ∧ Paired (fun v p => ∃ b, v = V.ref b ∧ offS [nl, kd, pl, td] H b = some (.lst (pth T p (p.length + 1)))) ps (done.filter (isLf T))
  tt : ∃ xs, H td = some (.lst xs) ∧ Paired (fun v q => ∃ u b fv, sub T q = some u ∧ v = V.ref b ∧ offS [nl, kd, pl, td] H b = some (.tup [fv, .int (upI T q), .int (whI q)]) ∧ ShV K H0 fv u) xs pend.reverse
def spTree (K : PySem.W.Frag) : Sp := fun vs H Q _ => ∃ (fv : V) (T : Dt), vs = [fv] ∧ ShV K H fv T ∧ T.nodes ≤ 100 ∧ T.ht < 20 ∧ ∀ H' tr, Same H H' → H tr = none → LawT K H' tr T → Q (.ref tr) H'
theorem putK_leG {κ : Type} [DecidableEq κ] (kv : List (κ × V)) (k : κ) (v : V) : (putK kv k v).length ≤ kv.length + 1 := by
  unfold putK
  split
  · rw [List.length_map]
    omega
  · rw [List.length_append]
    exact Nat.le_refl _
theorem kids_rev (q : Ad) (n : Nat) : (kidsA q n).reverse = (List.range n).map fun k => q ++ [n - 1 - k] := by
  unfold kidsA
  refine List.ext_getElem? fun i => ?_
  by_cases h : i < n
  · rw [List.getElem?_reverse (by rw [List.length_map, List.length_range]; exact h), List.length_map, List.length_range, List.getElem?_map, List.getElem?_map, List.getElem?_range h, List.getElem?_range (by omega)]
    rfl
  · rw [List.getElem?_eq_none (by rw [List.length_reverse, List.length_map, List.length_range]; omega), List.getElem?_eq_none (by rw [List.length_map, List.length_range]; omega)]
theorem Paired.app3 {α β : Type} {F : α → β → Prop} : ∀ {a : List α} {b : List β} {a' : List α} {b' : List β}, Paired F a b → Paired F a' b' → Paired F (a ++ a') (b ++ b')
  | _, _, _, _, .nil, h => h
  | _, _, _, _, .cons r t, h => .cons r (Paired.app3 t h)
theorem Paired.un {α β : Type} {F : α → β → Prop} : ∀ {b : List β} {a : List α} {y : β}, Paired F a (b ++ [y]) → ∃ a' x, a = a' ++ [x] ∧ Paired F a' b ∧ F x y
  | [], _, _, .cons r t => by
    cases t
    exact ⟨[], _, rfl, .nil, r⟩
  | z :: b, _, y, .cons r t => by
    obtain ⟨a', x, rfl, h1, h2⟩ := Paired.un t
    exact ⟨_ :: a', x, rfl, .cons r h1, h2⟩
theorem Paired.lenE {α β : Type} {F : α → β → Prop} : ∀ {a : List α} {b : List β}, Paired F a b → a.length = b.length
  | _, _, .nil => rfl
  | _, _, .cons _ t => congrArg (· + 1) (Paired.lenE t)
theorem Paired.weak {α β : Type} {F G : α → β → Prop} (h : ∀ x y, F x y → G x y) : ∀ {a : List α} {b : List β}, Paired F a b → Paired G a b
  | _, _, .nil => .nil
  | _, _, .cons r t => .cons (h _ _ r) (Paired.weak h t)
theorem Paired.idx {α β : Type} {F : α → β → Prop} : ∀ {a : List α} {b : List β}, Paired F a b → ∀ {i : Nat} {y : β}, b[i]? = some y → ∃ x, a[i]? = some x ∧ F x y
  | _, _, .nil, i, y, h => by simp at h
  | _, _, .cons r t, 0, y, h => ⟨_, rfl, by have : _ = y := Option.some.inj h; subst this; exact r⟩
  | _, _, .cons r t, i + 1, y, h => by
    obtain ⟨x, h1, h2⟩ := Paired.idx t (i := i) (y := y) (by simpa using h)
    exact ⟨x, by simpa using h1, h2⟩
section
variable {P : Program} {w : World} {K : PySem.W.Frag} {mg : Str → Option Value} {base : Heap}
theorem ok_tree (D : DefAt K mg "_law_tree" s_law_tree ["form"]) (T0 : Txt K mg) : CalX P w K mg base CX0 1 "_law_tree" ["form"] (spTree K) := by
  refine D.ok sc_law_tree (fun vs H Q E h => ?_) (fun f cdv A outer s H vs Q E hr h => ?_)
  · obtain ⟨fv, T, rfl, _⟩ := h
    rfl
  obtain ⟨fv, T, rfl, hfv, hno, hht, q⟩ := h
  have hu := hu_of hr
  refine ⟨_, (pss_cons (ps_set (i := 1) sc_law_tree.nd rfl (.inl rfl) (pe_lst pa_nil)) 
    (pss_cons (ps_set (i := 2) sc_law_tree.nd rfl (.inl rfl) pe_dnewT) 
    (pss_cons (ps_set (i := 3) sc_law_tree.nd rfl (.inl rfl) (pe_lst pa_nil)) 
    (pss_cons (ps_set (i := 4) sc_law_tree.nd rfl (.inl rfl) (pe_lst (pa_cons (pe_tup (pa_cons (pv 0) (pa_cons (pe_un un_neg pe_int) (pa_cons pe_int pa_nil)))) pa_nil))) 
    (pss_cons (ps_for PassesOwn.never rfl (pi_range1 (by rfl) T0.range (pa_cons pe_int pa_nil)) (pg_name (i := 5) sc_law_tree.nd rfl (Or.inl rfl)) 
      (pss_one (ps_if (pt_cmpR op_gt (pe_callB call_len_seq (by rfl) T0.len PySem.boot_len (pa_cons (pv 4) pa_nil)) pe_int (nomark _)) 
        (pss_cons (ps_asg (pe_bm0 PySem.F.plainAttrs_list PySem.F.slot_list_pop PySem.F.type_list_pop mt_pop (pv 4)) (pg_tup (by rfl) (pgs_cons (pg_name (i := 6) sc_law_tree.nd rfl (Or.inr rfl)) (pgs_cons (pg_name (i := 7) sc_law_tree.nd rfl (Or.inl rfl)) (pgs_cons (pg_name (i := 8) sc_law_tree.nd rfl (Or.inl rfl)) pgs_nil))))) 
        (pss_cons (ps_set (i := 9) sc_law_tree.nd rfl (.inr rfl) (pe_callB call_len_seq (by rfl) T0.len PySem.boot_len (pa_cons (pv 1) pa_nil))) 
        (pss_cons (ps_expr (pe_bm PySem.F.plainAttrs_list PySem.F.slot_list_append PySem.F.type_list_append mt_append (pv 1) (pa_cons (pe_tup (pa_cons (pv 7) (pa_cons (pv 8) (pa_cons (pe_callB call_len_seq (by rfl) T0.len PySem.boot_len (pa_cons (pv 6) pa_nil)) pa_nil)))) pa_nil))) 
        (pss_cons (ps_dput hu (pv 2) (pe_tup (pa_cons (pv 7) (pa_cons (pv 8) pa_nil))) (pv 9) rfl) 
        (pss_cons (ps_set (i := 10) sc_law_tree.nd rfl (.inr rfl) (pe_op op_sub (pe_callB call_len_seq (by rfl) T0.len PySem.boot_len (pa_cons (pv 6) pa_nil)) pe_int)) 
        (pss_cons (ps_expr (pe_bm PySem.F.plainAttrs_list PySem.F.slot_list_extend PySem.F.type_list_extend mt_extend (pv 4) (pa_cons (pe_lc (own := [("k", 11)]) (g := gName 11) (tt := tYes) (by rfl) sc_law_tree.nd (pi_range1 (by rfl) T0.range (pa_cons (pe_callB call_len_seq (by rfl) T0.len PySem.boot_len (pa_cons (pv 6) pa_nil)) pa_nil)) (blkOk_by (own := [("k", 11)]) (N := N_law_tree) (sc := defScope s_law_tree) (by decide +kernel)) (fun _ _ _ _ _ => pg_name (i := 11) sc_law_tree.nd rfl (Or.inl rfl)) (fun _ _ _ _ _ => pts_nil) (fun _ _ _ _ _ => by exact (pe_tup (pa_cons (pe_ix (ix_tupK (K := K) (by exact rfl)) (pv 6) (pe_op op_sub (pv 10) (pv 11)) (fun _ _ => rfl)) (pa_cons (pv 9) (pa_cons (pe_op op_sub (pv 10) (pv 11)) pa_nil)))))) pa_nil))) 
        (pss_one (ps_if (pt_cmpR op_eq (pe_callB call_len_seq (by rfl) T0.len PySem.boot_len (pa_cons (pv 6) pa_nil)) pe_int (nomark _)) 
          (pss_cons (ps_set (i := 12) sc_law_tree.nd rfl (.inl rfl) (pe_lst (pa_cons (pv 9) pa_nil))) 
          (pss_cons (ps_for PassesOwn.never rfl (pi_range1 (by rfl) T0.range (pa_cons (pe_callB call_len_seq (by rfl) T0.len PySem.boot_len (pa_cons (pv 1) pa_nil)) pa_nil)) (pg_name (i := 13) sc_law_tree.nd rfl (Or.inl rfl)) 
            (pss_one (ps_if (pt_cmpR op_ge (pe_ix ix_tup (pe_ix ix_list (pv 1) (pe_ix ix_list (pv 12) pe_int (fun _ _ => rfl)) (fun _ _ => rfl)) pe_int (fun _ _ => rfl)) pe_int (nomark _)) 
              (pss_one (ps_set (i := 12) sc_law_tree.nd rfl (.inl rfl) (pe_op op_cat (pe_lst (pa_cons (pe_ix ix_tup (pe_ix ix_list (pv 1) (pe_ix ix_list (pv 12) pe_int (fun _ _ => rfl)) (fun _ _ => rfl)) pe_int (fun _ _ => rfl)) pa_nil)) (pv 12)))) pss_nil))) 
          (pss_one (ps_expr (pe_bm PySem.F.plainAttrs_list PySem.F.slot_list_append PySem.F.type_list_append mt_append (pv 3) (pa_cons (pv 12) pa_nil)))))) pss_nil)))))))) pss_nil))) 
    (pss_one (ps_ret (pe_lst (pa_cons (pv 1) (pa_cons (pv 2) (pa_cons (pv 3) pa_nil))))))))))), ?_⟩
  refine ⟨(by show 0 ≤ sizeLine; decide), fun nl hnl => ?_⟩
  have s1 : Same H (upd H nl (.lst [])) := same_new hnl
  have n1 : (upd H nl (.lst [])) nl = some (.lst []) := upd_same
  revert s1 n1
  generalize upd H nl (.lst []) = H1
  intro s1 n1
  refine fun kd hkd => ?_
  have s2 : Same H1 (upd H1 kd (.dT [])) := same_new hkd
  have k2 : (upd H1 kd (.dT [])) kd = some (.dT []) := upd_same
  revert s2 k2
  generalize upd H1 kd (.dT []) = H2
  intro s2 k2
  refine ⟨(by show 0 ≤ sizeLine; decide), fun pl hpl => ?_⟩
  have s3 : Same H2 (upd H2 pl (.lst [])) := same_new hpl
  have p3 : (upd H2 pl (.lst [])) pl = some (.lst []) := upd_same
  revert s3 p3
  generalize upd H2 pl (.lst []) = H3
  intro s3 p3
  refine ⟨_, rfl, 1, rfl, (by show 3 ≤ sizeLine; decide), fun b0 hb0 => ⟨(by show 1 ≤ sizeLine; decide), fun td htd => ?_⟩⟩
  have s4 : Same H3 (upd H3 b0 (.tup [fv, .int (-1), .int 0])) := same_new hb0
  have b4 : (upd H3 b0 (.tup [fv, .int (-1), .int 0])) b0 = some (.tup [fv, .int (-1), .int 0]) := upd_same
  revert s4 b4 htd
  generalize upd H3 b0 (.tup [fv, .int (-1), .int 0]) = H4
  intro htd s4 b4
  have s5 : Same H4 (upd H4 td (.lst [.ref b0])) := same_new htd
  have t5 : (upd H4 td (.lst [.ref b0])) td = some (.lst [.ref b0]) := upd_same
  revert s5 t5
  generalize upd H4 td (.lst [.ref b0]) = H5
  intro s5 t5
  have f1 : H nl = none := hnl
  have f2 : H kd = none := s1.free hkd
  have f3 : H pl = none := s1.free (s2.free hpl)
  have f4 : H td = none := s1.free (s2.free (s3.free (s4.free htd)))
  have n5 := s5 _ _ (s4 _ _ (s3 _ _ (s2 _ _ n1)))
  have k5 := s5 _ _ (s4 _ _ (s3 _ _ k2))
  have p5 := s5 _ _ (s4 _ _ p3)
  have b5 := s5 _ _ b4
  have e12 : nl ≠ kd := fun z => by rw [z, k5] at n5; exact nomatch n5
  have e13 : nl ≠ pl := fun z => by rw [← z, s2 _ _ n1] at hpl; exact nomatch hpl
  have e14 : nl ≠ td := fun z => by rw [← z, s4 _ _ (s3 _ _ (s2 _ _ n1))] at htd; exact nomatch htd
  have e23 : kd ≠ pl := fun z => by rw [z, p5] at k5; exact nomatch k5
  have e24 : kd ≠ td := fun z => by rw [z, t5] at k5; exact nomatch k5
  have e34 : pl ≠ td := fun z => by rw [← z, s4 _ _ p3] at htd; exact nomatch htd
  have eb : b0 ∉ [nl, kd, pl, td] := fun z => by
    simp only [List.mem_cons, List.not_mem_nil, or_false] at z
    rcases z with z | z | z | z
    · rw [z, n5] at b5; exact nomatch b5
    · rw [z, k5] at b5; exact nomatch b5
    · rw [z, p5] at b5; exact nomatch b5
    · rw [z, t5] at b5; exact nomatch b5
  have start : TI K H H5 nl kd pl td T [] [[]] := by
    refine ⟨s1.trans (s2.trans (s3.trans (s4.trans s5))), ?_, fun q hq => ?_, ⟨[], n5, .nil⟩, ⟨[], k5, Nat.le_refl _, fun q hq => nomatch hq⟩, ⟨[], p5, .nil⟩, ⟨[.ref b0], t5, .cons ⟨T, b0, fv, sub_nil T, rfl, by rw [offS_ne eb]; exact b5, hfv⟩ .nil⟩⟩
    · show ad T = (match sub T [] with | some u => (ad u).map ([] ++ ·) | none => []) ++ []
      rw [sub_nil, List.append_nil]
      simp
    · rw [List.mem_singleton.mp hq]
      exact ⟨T, sub_nil T⟩
  refine ⟨200, rfl, by decide, by decide, for_range (lo := 0) (n := 200) (fun m σ H' => ∃ (o5 o6 o7 o8 o9 o10 o11 o12 o13 : Option V) (done pend : List Ad), σ = [some fv, some (.ref nl), some (.ref kd), some (.ref pl), some (.ref td), o5, o6, o7, o8, o9, o10, o11, o12, o13] ∧ TI K H H' nl kd pl td T done pend ∧ (pend = [] ∨ done.length = m))
    ⟨_, _, _, _, _, _, _, _, _, [], [[]], rfl, start, .inr rfl⟩ ?_ ?_⟩
  · rintro m σ H6 hm ⟨o5, o6, o7, o8, o9, o10, o11, o12, o13, done, pend, rfl, I, hmd⟩
    obtain ⟨xs, hxs, hP⟩ := I.tt
    have hxl := Paired.lenE hP
    rw [List.length_reverse] at hxl
    refine ⟨_, rfl, td, xs, rfl, .inl (SqL.of hxs), _, _, rfl, rfl, _, rfl, ?_⟩
    refine ite2 (fun hc => ?_) (fun hc => ?_)
    · cases pend with
      | nil =>
        have : (0 : Int) < (xs.length : Nat) := of_decide_eq_true hc
        rw [hxl] at this
        exact absurd this (by decide)
      | cons q0 r =>
      have hdm : done.length = m := hmd.resolve_left fun z => nomatch z
      obtain ⟨xs', vq, rfl, hP', u, b, fvq, hu0, rfl, hb, hsv⟩ := Paired.un (b := r.reverse) (y := q0) (by rw [List.reverse_cons] at hP; exact hP)
      have hsp := I.sp
      rw [pblk_pop hu0] at hsp
      have hix : T.idx q0 = done.length := idx_of (by rw [hsp, List.getElem?_append_right (Nat.le_refl _), Nat.sub_self]; rfl)
      have hdl : done.length ≤ 100 := by
        have := congrArg List.length hsp
        rw [ad_len, List.length_append] at this
        omega
      have hq0 : q0 ∈ ad T := sub_ad hu0
      have hul : u.len ≤ 100 := by
        have z1 := idx_lt hu0
        have z2 := len_lt_nodes u
        omega
      obtain ⟨ns, hns, hN⟩ := I.nn
      obtain ⟨kvs, hkv, hkl, hK⟩ := I.kk
      obtain ⟨ps, hps, hPs⟩ := I.pp
      have hnl := Paired.lenE hN
      have hpsl := Paired.lenE hPs
      have hpsl2 : (done.filter (isLf T)).length ≤ done.length := List.length_filter_le ..
      have hxs'l := Paired.lenE hP'
      have hsl := sizeLine_eq
      have hrl : r.length ≤ 100 := by
        have hlen : ∀ l : List Ad, (∀ q ∈ l, ∃ u, sub T q = some u) → l.length ≤ (pblk T l).length := by
          intro l
          induction l with
          | nil => exact fun _ => Nat.le_refl _
          | cons a l ih =>
            intro hl
            obtain ⟨ua, hua⟩ := hl a (List.mem_cons_self ..)
            have := ih fun q hq => hl q (List.mem_cons_of_mem _ hq)
            show l.length + 1 ≤ ((match sub T a with | some u => (ad u).map (a ++ ·) | none => []) ++ pblk T l).length
            rw [hua, List.length_append, List.length_map, ad_len]
            have := ua.nodes_pos
            omega
        have h1 := hlen r fun q hq => I.ok q (List.mem_cons_of_mem _ hq)
        have h2 := congrArg List.length hsp
        rw [ad_len, List.length_append, List.length_cons, pblk_app, List.length_append] at h2
        omega
      rw [List.length_reverse] at hxs'l
      have mnl : nl ∈ [nl, kd, pl, td] := by simp
      have mkd : kd ∈ [nl, kd, pl, td] := by simp
      have mpl : pl ∈ [nl, kd, pl, td] := by simp
      have mtd : td ∈ [nl, kd, pl, td] := by simp
      refine ⟨_, rfl, .inl ⟨rfl, _, SqL.of hxs⟩, td, _, .ref b, rfl, rfl, hxs, (by simp), ?_⟩
      rw [List.dropLast_concat]
      have g7 : GoS [nl, kd, pl, td] H6 (upd H6 td (.lst xs')) := GoS.refl.upd mtd
      have m7 : Same H (upd H6 td (.lst xs')) := same_mut I.sm f4
      have nl7 : (upd H6 td (.lst xs')) nl = some (.lst ns) := by rw [upd_ne e14]; exact hns
      have kd7 : (upd H6 td (.lst xs')) kd = some (.dT kvs) := by rw [upd_ne e24]; exact hkv
      have pl7 : (upd H6 td (.lst xs')) pl = some (.lst ps) := by rw [upd_ne e34]; exact hps
      have td7 : (upd H6 td (.lst xs')) td = some (.lst xs') := upd_same
      revert g7 m7 nl7 kd7 pl7 td7
      generalize upd H6 td (.lst xs') = H7
      intro g7 m7 nl7 kd7 pl7 td7
      have hb7 := (offS_some (g7.s _ _ hb)).2
      refine ⟨b, _, rfl, SqT.of hb7, rfl, ?_⟩
      refine ⟨_, _, rfl, _, _, rfl, _, _, rfl, rfl, ?_⟩
      refine ⟨_, rfl, nl, ns, rfl, .inl (SqL.of nl7), ?_⟩
      obtain ⟨pa, vs, rfl, hpa, hsf⟩ := hsv
      have hvl := hsf.len
      rw [show ns.length = T.idx q0 by rw [hnl, hix]]
      -- the node
      refine ⟨_, rfl, .inl ⟨rfl, _, SqL.of nl7⟩, ?_⟩
      refine ⟨_, rfl, _, rfl, _, rfl, pa, vs, rfl, .inr (same_sqt m7 hpa), (by show 3 ≤ sizeLine; decide), fun b1 hb1 => ?_⟩
      rw [hvl]
      have s8 : Same H7 (upd H7 b1 (.tup [.int (upI T q0), .int (whI q0), .int (u.len : Nat)])) := same_new hb1
      have b18 : (upd H7 b1 (.tup [.int (upI T q0), .int (whI q0), .int (u.len : Nat)])) b1 = some (.tup [.int (upI T q0), .int (whI q0), .int (u.len : Nat)]) := upd_same
      have b1S : b1 ∉ [nl, kd, pl, td] := fun z => by
        simp only [List.mem_cons, List.not_mem_nil, or_false] at z
        rcases z with z | z | z | z
        · rw [z, nl7] at hb1; exact nomatch hb1
        · rw [z, kd7] at hb1; exact nomatch hb1
        · rw [z, pl7] at hb1; exact nomatch hb1
        · rw [z, td7] at hb1; exact nomatch hb1
      revert s8 b18
      generalize upd H7 b1 (.tup [.int (upI T q0), .int (whI q0), .int (u.len : Nat)]) = H8
      intro s8 b18
      refine ⟨nl, ns, _, rfl, rfl, s8 _ _ nl7, small1000 (by omega), ?_⟩
      have g9 : GoS [nl, kd, pl, td] H6 (upd H8 nl (.lst (ns ++ [.ref b1]))) := (g7.trans (GoS.of s8)).upd mnl
      have m9 : Same H (upd H8 nl (.lst (ns ++ [.ref b1]))) := same_mut (m7.trans s8) f1
      have nl9 : (upd H8 nl (.lst (ns ++ [.ref b1]))) nl = some (.lst (ns ++ [.ref b1])) := upd_same
      have kd9 : (upd H8 nl (.lst (ns ++ [.ref b1]))) kd = some (.dT kvs) := by rw [upd_ne e12.symm]; exact s8 _ _ kd7
      have pl9 : (upd H8 nl (.lst (ns ++ [.ref b1]))) pl = some (.lst ps) := by rw [upd_ne e13.symm]; exact s8 _ _ pl7
      have td9 : (upd H8 nl (.lst (ns ++ [.ref b1]))) td = some (.lst xs') := by rw [upd_ne e14.symm]; exact s8 _ _ td7
      have b19 : (upd H8 nl (.lst (ns ++ [.ref b1]))) b1 = some (.tup [.int (upI T q0), .int (whI q0), .int (u.len : Nat)]) := by rw [upd_ne (fun z => b1S (by rw [z]; exact mnl))]; exact b18
      revert g9 m9 nl9 kd9 pl9 td9 b19
      generalize upd H8 nl (.lst (ns ++ [.ref b1])) = H9
      intro g9 m9 nl9 kd9 pl9 td9 b19
      -- its number by its place
      refine ⟨_, rfl, _, rfl, _, rfl, _, rfl, (by show 2 ≤ sizeLine; decide), fun b2 hb2 => ⟨kd, _, rfl, .inr ⟨kvs, keyK T q0, b2, same_new hb2 _ _ kd9, rfl, upd_same, by omega, rfl⟩, ?_⟩⟩
      have s10 : Same H9 (upd H9 b2 (.tup [.int (upI T q0), .int (whI q0)])) := same_new hb2
      revert s10
      generalize upd H9 b2 (.tup [.int (upI T q0), .int (whI q0)]) = H10
      intro s10
      have g11 : GoS [nl, kd, pl, td] H6 (upd H10 kd (.dT (putK kvs (keyK T q0) (.int (T.idx q0 : Nat))))) := (g9.trans (GoS.of s10)).upd mkd
      have m11 : Same H (upd H10 kd (.dT (putK kvs (keyK T q0) (.int (T.idx q0 : Nat))))) := same_mut (m9.trans s10) f2
      have nl11 : (upd H10 kd (.dT (putK kvs (keyK T q0) (.int (T.idx q0 : Nat))))) nl = some (.lst (ns ++ [.ref b1])) := by rw [upd_ne e12]; exact s10 _ _ nl9
      have kd11 : (upd H10 kd (.dT (putK kvs (keyK T q0) (.int (T.idx q0 : Nat))))) kd = some (.dT (putK kvs (keyK T q0) (.int (T.idx q0 : Nat)))) := upd_same
      have pl11 : (upd H10 kd (.dT (putK kvs (keyK T q0) (.int (T.idx q0 : Nat))))) pl = some (.lst ps) := by rw [upd_ne e23.symm]; exact s10 _ _ pl9
      have td11 : (upd H10 kd (.dT (putK kvs (keyK T q0) (.int (T.idx q0 : Nat))))) td = some (.lst xs') := by rw [upd_ne e24.symm]; exact s10 _ _ td9
      have b111 : (upd H10 kd (.dT (putK kvs (keyK T q0) (.int (T.idx q0 : Nat))))) b1 = some (.tup [.int (upI T q0), .int (whI q0), .int (u.len : Nat)]) := by rw [upd_ne (fun z => b1S (by rw [z]; exact mkd))]; exact s10 _ _ b19
      revert g11 m11 nl11 kd11 pl11 td11 b111
      generalize upd H10 kd (.dT (putK kvs (keyK T q0) (.int (T.idx q0 : Nat)))) = H11
      intro g11 m11 nl11 kd11 pl11 td11 b111
      refine ⟨_, rfl, pa, vs, rfl, .inr (same_sqt m11 hpa), _, _, rfl, rfl, ?_⟩
      rw [hvl]
      -- its children wait
      refine ⟨_, rfl, .inl ⟨rfl, _, SqL.of td11⟩, ?_⟩
      refine ⟨_, rfl, pa, vs, rfl, .inr (same_sqt m11 hpa), ?_⟩
      rw [hvl]
      refine ⟨_, rfl, by omega, by omega, fun Dl hDl => lc_range (lo := 0) (n := u.len) (fun k H' => Same H11 H' ∧ ∃ zs, H' Dl = some (.lst zs) ∧ Paired (fun v q => ∃ u b fv, sub T q = some u ∧ v = V.ref b ∧ H' b = some (.tup [fv, .int (upI T q), .int (whI q)]) ∧ b ≠ Dl ∧ H11 b = none ∧ ShV K H fv u) zs ((List.range k).map fun k => q0 ++ [u.len - 1 - k])) ⟨same_new hDl, [], upd_same, .nil⟩ ?_ ?_⟩
      · rintro k H' hk ⟨sm, zs, hD, hZ⟩
        have hzl := Paired.lenE hZ
        rw [List.length_map, List.length_range] at hzl
        have hj : u.len - 1 - k < vs.length := by rw [hvl]; omega
        have hvj : vs[u.len - 1 - k]? = some vs[u.len - 1 - k] := List.getElem?_eq_getElem hj
        obtain ⟨kd', hkd1, hkd2⟩ := hsf.at _ _ hvj
        have hsk : sub T (q0 ++ [u.len - 1 - k]) = some kd' := by
          rw [(sub_app T q0 u hu0 [u.len - 1 - k]).1, sub_one, hkd1]
        have eidx : ((u.len : Nat) : Int) - 1 - (0 + (k : Nat)) = ((u.len - 1 - k : Nat) : Int) := by omega
        refine ⟨rfl, ?_⟩
        refine ⟨_, rfl, _, rfl, _, rfl, _, _, rfl, rfl, pa, vs, _, vs[u.len - 1 - k], rfl, rfl, same_sqt (m11.trans sm) hpa, (by rw [eidx]; exact atI_nat hvj), ?_⟩
        refine ⟨_, rfl, _, rfl, _, rfl, _, _, rfl, rfl, (by show 3 ≤ sizeLine; decide), fun b3 hb3 => ?_⟩
        have nb3 : b3 ≠ Dl := fun z => by
          rw [z, hD] at hb3
          exact nomatch hb3
        refine ⟨zs, same_new hb3 _ _ hD, small1000 (by omega), same_mut (sm.trans (same_new hb3)) hDl, zs ++ [.ref b3], upd_same, ?_⟩
        rw [List.range_succ, List.map_append]
        refine Paired.app3 (Paired.weak (fun v p z => ?_) hZ) (.cons ⟨kd', b3, _, hsk, rfl, ?_, nb3, sm.free hb3, hkd2⟩ .nil)
        · obtain ⟨u1, b4, fv4, z1, z2, z3, z4, z5, z6⟩ := z
          refine ⟨u1, b4, fv4, z1, z2, ?_, z4, z5, z6⟩
          rw [upd_ne z4]
          exact same_new hb3 _ _ z3
        · rw [upd_ne nb3, upI_snoc, whI_snoc, ← eidx]
          exact upd_same
      · rintro H12 ⟨s12, zs, hD, hZ⟩
        have hzl := Paired.lenE hZ
        rw [List.length_map, List.length_range] at hzl
        have td12 := s12 _ _ td11
        refine ⟨td, Dl, xs', zs, rfl, rfl, td12, hD, by omega, ?_⟩
        have g13 : GoS [nl, kd, pl, td] H6 (upd H12 td (.lst (xs' ++ zs))) := (g11.trans (GoS.of s12)).upd mtd
        have m13 : Same H (upd H12 td (.lst (xs' ++ zs))) := same_mut (m11.trans s12) f4
        have nl13 : (upd H12 td (.lst (xs' ++ zs))) nl = some (.lst (ns ++ [.ref b1])) := by rw [upd_ne e14]; exact s12 _ _ nl11
        have kd13 : (upd H12 td (.lst (xs' ++ zs))) kd = some (.dT (putK kvs (keyK T q0) (.int (T.idx q0 : Nat)))) := by rw [upd_ne e24]; exact s12 _ _ kd11
        have pl13 : (upd H12 td (.lst (xs' ++ zs))) pl = some (.lst ps) := by rw [upd_ne e34]; exact s12 _ _ pl11
        have td13 : (upd H12 td (.lst (xs' ++ zs))) td = some (.lst (xs' ++ zs)) := upd_same
        have b113 : (upd H12 td (.lst (xs' ++ zs))) b1 = some (.tup [.int (upI T q0), .int (whI q0), .int (u.len : Nat)]) := by rw [upd_ne (fun z => b1S (by rw [z]; exact mtd))]; exact s12 _ _ b111
        have zS : ∀ b, H11 b = none → b ∉ [nl, kd, pl, td] := fun b hb z => by
          simp only [List.mem_cons, List.not_mem_nil, or_false] at z
          rcases z with z | z | z | z
          · rw [z, nl11] at hb; exact nomatch hb
          · rw [z, kd11] at hb; exact nomatch hb
          · rw [z, pl11] at hb; exact nomatch hb
          · rw [z, td11] at hb; exact nomatch hb
        have hZ13 : Paired (fun v q => ∃ u b fv, sub T q = some u ∧ v = V.ref b ∧ offS [nl, kd, pl, td] (upd H12 td (.lst (xs' ++ zs))) b = some (.tup [fv, .int (upI T q), .int (whI q)]) ∧ ShV K H fv u) zs ((kidsA q0 u.len).reverse) := by
          rw [kids_rev]
          refine Paired.weak (fun v p z => ?_) hZ
          obtain ⟨u1, b4, fv4, z1, z2, z3, z4, z5, z6⟩ := z
          refine ⟨u1, b4, fv4, z1, z2, ?_, z6⟩
          have nS := zS b4 z5
          rw [offS_ne nS, upd_ne (fun z => nS (by rw [z]; exact mtd))]
          exact z3
        revert g13 m13 nl13 kd13 pl13 td13 b113 hZ13
        generalize upd H12 td (.lst (xs' ++ zs)) = H13
        intro g13 m13 nl13 kd13 pl13 td13 b113 hZ13
        have fin : ∀ H14 ps', GoS [nl, kd, pl, td] H13 H14 → Same H H14 → H14 nl = some (.lst (ns ++ [.ref b1])) → H14 kd = some (.dT (putK kvs (keyK T q0) (.int (T.idx q0 : Nat)))) → H14 pl = some (.lst ps') → H14 td = some (.lst (xs' ++ zs)) → Paired (fun v p => ∃ b, v = V.ref b ∧ offS [nl, kd, pl, td] H14 b = some (.lst (pth T p (p.length + 1)))) ps' ((done ++ [q0]).filter (isLf T)) → TI K H H14 nl kd pl td T (done ++ [q0]) (kidsA q0 u.len ++ r) := by
          intro H14 ps' g14 m14 nl14 kd14 pl14 td14 hP14
          have gg : Same (offS [nl, kd, pl, td] H6) (offS [nl, kd, pl, td] H14) := (g13.trans g14).s
          refine ⟨m14, by rw [hsp, List.append_assoc]; rfl, fun p hp => ?_, ⟨_, nl14, Paired.app3 (Paired.weak (fun v p z => ?_) hN) (.cons ⟨u, b1, hu0, rfl, g14.s _ _ (by rw [offS_ne b1S]; exact b113)⟩ .nil)⟩, ⟨_, kd14, ?_, fun p hp => ?_⟩, ⟨ps', pl14, hP14⟩, ⟨_, td14, ?_⟩⟩
          · rcases List.mem_append.mp hp with hp | hp
            · obtain ⟨j, hj, rfl⟩ := List.mem_map.mp hp
              obtain ⟨k', hk'⟩ := kid_of (List.mem_range.mp hj)
              exact ⟨k', by rw [(sub_app T q0 u hu0 [j]).1, sub_one, hk']⟩
            · exact I.ok p (List.mem_cons_of_mem _ hp)
          · obtain ⟨u1, b4, z1, z2, z3⟩ := z
            exact ⟨u1, b4, z1, z2, gg _ _ z3⟩
          · have := putK_leG kvs (keyK T q0) (.int (T.idx q0 : Nat))
            rw [List.length_append]
            exact Nat.le_trans this (Nat.add_le_add_right hkl 1)
          · rw [valV_putG]
            by_cases e : p = q0
            · rw [e, if_pos rfl]
            · have hpd : p ∈ done := by
                rcases List.mem_append.mp hp with h | h
                · exact h
                · exact absurd (List.mem_singleton.mp h) e
              have hpa2 : p ∈ ad T := by rw [hsp]; exact List.mem_append_left _ hpd
              rw [if_neg (fun z => e (key_inj hpa2 hq0 z))]
              exact hK p hpd
          · rw [List.reverse_append]
            refine Paired.app3 (Paired.weak (fun v p z => ?_) hP') (Paired.weak (fun v p z => ?_) hZ13)
            · obtain ⟨u1, b4, fv4, z1, z2, z3, z4⟩ := z
              exact ⟨u1, b4, fv4, z1, z2, gg _ _ z3, z4⟩
            · obtain ⟨u1, b4, fv4, z1, z2, z3, z4⟩ := z
              exact ⟨u1, b4, fv4, z1, z2, g14.s _ _ z3, z4⟩
        refine ⟨_, rfl, pa, vs, rfl, .inr (same_sqt m13 hpa), rfl, _, rfl, ?_⟩
        rw [hvl]
        by_cases hz : u.len = 0
        · have e0 : (decide (V.int (u.len : Nat) = V.int 0)) = true := decide_eq_true (by rw [hz]; rfl)
          rw [e0]
          refine iteT ?_
          refine ⟨_, rfl, (by show 1 ≤ sizeLine; decide), fun p0 hp0 => ?_⟩
          have s14 : Same H13 (upd H13 p0 (.lst [.int (T.idx q0 : Nat)])) := same_new hp0
          have p014 : (upd H13 p0 (.lst [.int (T.idx q0 : Nat)])) p0 = some (.lst [.int (T.idx q0 : Nat)]) := upd_same
          revert s14 p014
          generalize upd H13 p0 (.lst [.int (T.idx q0 : Nat)]) = H14
          intro s14 p014
          have hlid := len_idx T q0 u hu0
          have hpl0 : (pth T q0 (q0.length + 1)).length = q0.length + 1 := pth_len ..
          refine ⟨_, rfl, nl, _, rfl, .inl (SqL.of (s14 _ _ nl13)), ?_⟩
          rw [show (ns ++ [V.ref b1]).length = done.length + 1 by rw [List.length_append, hnl]; rfl]
          refine ⟨_, rfl, by omega, by omega, for_range (lo := 0) (n := done.length + 1) (fun j σ H' => ∃ (o13 : Option V) (pj : Addr), σ = [some fv, some (.ref nl), some (.ref kd), some (.ref pl), some (.ref td), some (.int (0 + (m : Nat))), some (.ref pa), some (.int (upI T q0)), some (.int (whI q0)), some (.int (T.idx q0 : Nat)), some (.int ((u.len : Nat) - 1)), o11, some (.ref pj), o13] ∧ Same H13 H' ∧ H13 pj = none ∧ H' pj = some (.lst ((pth T q0 (q0.length + 1)).drop (q0.length - j))))
            ⟨_, p0, rfl, s14, hp0, ?_⟩ ?_ ?_⟩
          · rw [p014, Nat.sub_zero, show (pth T q0 (q0.length + 1)).drop q0.length = [V.int (T.idx q0 : Nat)] from ?_]
            refine List.ext_getElem? fun i => ?_
            rw [List.getElem?_drop]
            cases i with
            | zero =>
              show (pth T q0 (q0.length + 1))[q0.length]? = _
              rw [pth_at (Nat.lt_succ_self _), List.take_length]
              rfl
            | succ i => rw [List.getElem?_eq_none (by rw [hpl0]; omega)]; rfl
          · rintro j σ H15 hj ⟨o13', pj, rfl, s15, hpj0, hpj⟩
            generalize hkx : q0.length - j = kx at hpj
            have hkl : kx ≤ q0.length := by omega
            have hpre : q0.take kx ∈ ad T := pre_ad hq0 (List.take_prefix ..)
            have hN13 : Paired (fun v q => ∃ u b, sub T q = some u ∧ v = V.ref b ∧ H13 b = some (.tup [.int (upI T q), .int (whI q), .int (u.len : Nat)])) (ns ++ [.ref b1]) (done ++ [q0]) :=
              Paired.app3 (Paired.weak (fun v p z => by
                obtain ⟨u1, b4, z1, z2, z3⟩ := z
                exact ⟨u1, b4, z1, z2, (offS_some (g13.s _ _ z3)).2⟩) hN) (.cons ⟨u, b1, hu0, rfl, b113⟩ .nil)
            obtain ⟨ut, hut⟩ := ad_sub hpre
            have hle := ((within hut hq0).mpr (List.take_prefix ..)).1
            have hat : (done ++ [q0])[T.idx (q0.take kx)]? = some (q0.take kx) := by
              have h1 := ad_at hut
              rw [hsp, show done ++ q0 :: pblk T (kidsA q0 u.len ++ r) = (done ++ [q0]) ++ pblk T (kidsA q0 u.len ++ r) by rw [List.append_assoc]; rfl, List.getElem?_append_left (by rw [List.length_append]; show T.idx (q0.take kx) < done.length + 1; omega)] at h1
              exact h1
            obtain ⟨v4, w1, u4, b4, w2, rfl, w3⟩ := Paired.idx hN13 hat
            have hh0 : ((pth T q0 (q0.length + 1)).drop kx)[0]? = some (V.int (T.idx (q0.take kx) : Nat)) := by
              rw [List.getElem?_drop]
              show (pth T q0 (q0.length + 1))[kx]? = _
              rw [pth_at (by omega)]
            have b415 := s15 _ _ w3
            refine ⟨_, rfl, _, rfl, pj, _, 0, _, rfl, rfl, SqL.of hpj, (show atI _ ((0 : Nat) : Int) = _ from atI_nat hh0), nl, _, _, _, rfl, rfl, SqL.of (s15 _ _ nl13), atI_nat w1, b4, _, 0, _, rfl, rfl, SqT.of b415, rfl, _, _, rfl, rfl, _, rfl, ?_⟩
            by_cases hk0 : kx = 0
            · subst hk0
              have eup : upI T (q0.take 0) = -1 := by unfold upI; rw [List.take_zero, if_pos rfl]
              rw [eup]
              refine iteF ?_
              refine ⟨_, pj, rfl, s15, hpj0, ?_⟩
              rw [hpj, show q0.length - (j + 1) = 0 by omega]
            · have etk : q0.take kx = q0.take (kx - 1) ++ [q0[kx - 1]'(by omega)] := by
                have := List.take_succ_eq_append_getElem (l := q0) (i := kx - 1) (by omega)
                rw [show kx - 1 + 1 = kx by omega] at this
                exact this
              have eup : upI T (q0.take kx) = (T.idx (q0.take (kx - 1)) : Nat) := by rw [etk, upI_snoc]
              have e1 : decide (upI T (q0.take kx) ≥ 0) = true := decide_eq_true (by rw [eup]; omega)
              rw [e1]
              refine iteT ?_
              refine ⟨_, rfl, _, rfl, pj, _, 0, _, rfl, rfl, SqL.of hpj, (show atI _ ((0 : Nat) : Int) = _ from atI_nat hh0), nl, _, _, _, rfl, rfl, SqL.of (s15 _ _ nl13), atI_nat w1, b4, _, 0, _, rfl, rfl, SqT.of b415, rfl, (by show 1 ≤ sizeLine; decide), fun l1 hl1 => ?_⟩
              have hpl1 : ((pth T q0 (q0.length + 1)).drop kx).length ≤ 200 := by rw [List.length_drop, hpl0]; omega
              refine ⟨_, rfl, l1, pj, _, _, rfl, rfl, upd_same, same_new hl1 _ _ hpj, by show 1 + _ ≤ _; omega, fun pn hpn => ?_⟩
              have s16 := s15.trans ((same_new hl1).trans (same_new (o := .lst ([V.int (upI T (q0.take kx))] ++ (pth T q0 (q0.length + 1)).drop kx)) hpn))
              refine ⟨_, pn, rfl, s16, s15.free ((same_new hl1).free hpn), ?_⟩
              rw [upd_same, eup, show q0.length - (j + 1) = kx - 1 by omega, List.drop_eq_getElem_cons (i := kx - 1) (by rw [hpl0]; omega), show kx - 1 + 1 = kx by omega]
              have := pth_at (T := T) (p := q0) (n := q0.length + 1) (k := kx - 1) (by omega)
              rw [List.getElem?_eq_getElem (by rw [hpl0]; omega)] at this
              rw [Option.some.inj this]
              rfl
          · rintro σ H15 ⟨o13', pj, rfl, s15, hpj0, hpj⟩
            have pl15 := s15 _ _ pl13
            refine ⟨_, rfl, .inl ⟨rfl, _, SqL.of pl15⟩, ?_⟩
            refine ⟨_, rfl, pl, ps, _, rfl, rfl, pl15, small1000 (by omega), ?_⟩
            have hfull : q0.length - (done.length + 1) = 0 := by omega
            rw [hfull, List.drop_zero] at hpj
            have pjS : pj ∉ [nl, kd, pl, td] := fun z => by
              simp only [List.mem_cons, List.not_mem_nil, or_false] at z
              rcases z with z | z | z | z
              · rw [z, nl13] at hpj0; exact nomatch hpj0
              · rw [z, kd13] at hpj0; exact nomatch hpj0
              · rw [z, pl13] at hpj0; exact nomatch hpj0
              · rw [z, td13] at hpj0; exact nomatch hpj0
            have hlf : isLf T q0 = true := by rw [isLf_o hu0, hz]; rfl
            have g16 : GoS [nl, kd, pl, td] H13 (upd H15 pl (.lst (ps ++ [.ref pj]))) := (GoS.of s15).upd mpl
            refine ⟨_, _, _, _, _, _, _, _, _, _, _, rfl, fin _ (ps ++ [.ref pj]) g16 (same_mut (m13.trans s15) f3) (by rw [upd_ne e13]; exact s15 _ _ nl13) (by rw [upd_ne e23]; exact s15 _ _ kd13) upd_same (by rw [upd_ne e34.symm]; exact s15 _ _ td13) ?_, .inr (by rw [List.length_append, hdm]; rfl)⟩
            rw [List.filter_append, List.filter_cons_of_pos hlf]
            refine Paired.app3 (Paired.weak (fun v p z => ?_) hPs) (.cons ⟨pj, rfl, by rw [offS_ne pjS, upd_ne (fun z => pjS (by rw [z]; exact mpl))]; exact hpj⟩ .nil)
            obtain ⟨b4, z1, z2⟩ := z
            exact ⟨b4, z1, (g13.trans g16).s _ _ z2⟩
        · have e0 : (decide (V.int (u.len : Nat) = V.int 0)) = false := decide_eq_false fun z => hz (by injection z with z; omega)
          rw [e0]
          refine iteF ?_
          have hlf : isLf T q0 = false := by rw [isLf_o hu0]; exact beq_false_of_ne hz
          refine ⟨_, _, _, _, _, _, _, _, _, _, _, rfl, fin H13 ps GoS.refl m13 nl13 kd13 pl13 td13 ?_, .inr (by rw [List.length_append, hdm]; rfl)⟩
          rw [List.filter_append, List.filter_cons_of_neg (by rw [hlf]; decide), List.filter_nil, List.append_nil]
          exact Paired.weak (fun v p z => by
            obtain ⟨b4, z1, z2⟩ := z
            exact ⟨b4, z1, g13.s _ _ z2⟩) hPs
    · have hx0 : pend = [] := by
        have : ¬ (0 : Int) < (xs.length : Nat) := fun z => hc (decide_eq_true z)
        exact List.eq_nil_of_length_eq_zero (by omega)
      exact ⟨_, _, _, _, _, _, _, _, _, done, pend, rfl, I, .inl hx0⟩
  · rintro σ H6 ⟨o5, o6, o7, o8, o9, o10, o11, o12, o13, done, pend, rfl, I, hmd⟩
    have hpe : pend = [] := by
      rcases hmd with h | h
      · exact h
      · have := congrArg List.length I.sp
        rw [List.length_append, ad_len] at this
        omega
    subst hpe
    have hda : done = ad T := by
      have := I.sp
      rw [show pblk T [] = [] from rfl, List.append_nil] at this
      exact this.symm
    subst hda
    obtain ⟨ns, h1, h2⟩ := I.nn
    obtain ⟨kvs, g1, g2, g3⟩ := I.kk
    obtain ⟨ps, j1, j2⟩ := I.pp
    refine ⟨_, rfl, _, rfl, _, rfl, (by show 3 ≤ sizeLine; decide), fun tr htr => ?_⟩
    have sF : Same H6 (upd H6 tr (.lst [.ref nl, .ref kd, .ref pl])) := same_new htr
    refine q _ tr (I.sm.trans sF) (I.sm.free htr) ⟨nl, kd, pl, ns, ps, kvs, upd_same, sF _ _ h1, by rw [Paired.lenE h2, ad_len], fun p u hp => ?_, sF _ _ g1, fun p j hp => ?_, sF _ _ j1, Paired.lenE j2, fun i p hi => ?_⟩
    · obtain ⟨v, e1, u', b, e2, rfl, e3⟩ := Paired.idx h2 (ad_at hp)
      rw [hp] at e2
      obtain rfl := Option.some.inj e2
      exact ⟨b, e1, sF _ _ (offS_some e3).2⟩
    · have := g3 _ hp
      unfold keyK at this
      rw [upI_snoc, whI_snoc] at this
      exact this
    · obtain ⟨v, e1, b, rfl, e3⟩ := Paired.idx j2 hi
      exact ⟨b, e1, sF _ _ (offS_some e3).2⟩
end
end K26
set_option Elab.async false
set_option linter.all false
set_option maxRecDepth 100000
set_option maxHeartbeats 8000000
namespace K26
open PySem PySem.Spec PyProof.Rows L2 Dt
/-! ### the law's bags: mathematics -/
abbrev Tr := List Int × Int × Int
abbrev Bgs := Ad → List Tr
def ky (e : Tr) : List Int × Int := (e.1, e.2.1)
def en (e : Tr) : En := (e.1, e.2.2)
def trD (e : Tr) : PyData := .tuple [intsD e.1, .int e.2.1, .int e.2.2]
/-- a line is the sorted bag -/
structure Bg (b : List Tr) (l : List En) (now : Int) : Prop where
  ex : ∃ s : List Tr, s.Perm b ∧ s.Pairwise (fun x y => ltC (ky x) (ky y) = true) ∧ l = s.map en
  lt : ∀ e ∈ b, e.2.1 < now
  ne : b.Pairwise fun x y => x.2.1 ≠ y.2.1
theorem Bg.len {b : List Tr} {l : List En} {now : Int} (h : Bg b l now) : l.length = b.length := by
  obtain ⟨s, h1, h2, rfl⟩ := h.ex
  rw [List.length_map, h1.length_eq]
theorem Bg.later {b : List Tr} {l : List En} {now : Int} (h : Bg b l now) {n2 : Int} (hn : now ≤ n2) : Bg b l n2 := ⟨h.ex, fun e he => by have := h.lt e he; omega, h.ne⟩
theorem ltC_lex {p q : List Int × Int} (h : ltC p q = true) : HT.lexLt q.1 p.1 = false := by
  unfold ltC at h
  by_cases e : p.1 = q.1
  · rw [e]
    exact lex_refl0 _
  · rw [if_neg e] at h
    exact NtL.lex_asym _ _ h
theorem lex_tot0 : ∀ xs ys : List Int, HT.lexLt xs ys = false → HT.lexLt ys xs = false → xs = ys
  | [], [], _, _ => rfl
  | [], y :: ys, h, _ => nomatch h
  | y :: ys, [], _, h => nomatch h
  | a :: xs, b :: ys, h1, h2 => by
    rw [HT.lexLt_cons] at h1 h2
    by_cases e : a = b
    · subst e
      rw [if_pos rfl] at h1 h2
      rw [lex_tot0 xs ys h1 h2]
    · rw [if_neg e] at h1
      rw [if_neg (Ne.symm e)] at h2
      have a1 := of_decide_eq_false h1
      have b1 := of_decide_eq_false h2
      omega
/-- one comes -/
theorem ins_sort {now : Int} {r : List Int} {it : Int} : ∀ {s : List Tr}, s.Pairwise (fun x y => ltC (ky x) (ky y) = true) → (∀ e ∈ s, e.2.1 < now) →
    ∃ s' : List Tr, s'.Perm ((r, now, it) :: s) ∧ s'.Pairwise (fun x y => ltC (ky x) (ky y) = true) ∧ s'.map en = insE (s.map en) (r, it)
  | [], _, _ => ⟨[(r, now, it)], List.Perm.refl _, List.pairwise_singleton .., rfl⟩
  | y :: s, hp, hl => by
    obtain ⟨p1, p2⟩ := List.pairwise_cons.mp hp
    obtain ⟨s', h1, h2, h3⟩ := ins_sort (r := r) (it := it) p2 fun e he => hl e (List.mem_cons_of_mem _ he)
    cases hc : HT.lexLt r y.1 with
    | true =>
      refine ⟨(r, now, it) :: y :: s, List.Perm.refl _, List.pairwise_cons.mpr ⟨fun z hz => ?_, hp⟩, ?_⟩
      · have hry : ltC (r, now) (ky y) = true := by
          unfold ltC
          have ne : ¬ r = (ky y).1 := fun e => by
            have e2 : r = y.1 := e
            rw [e2, lex_refl0] at hc
            exact nomatch hc
          rw [if_neg ne]
          exact hc
        rcases List.mem_cons.mp hz with rfl | hz
        · exact hry
        · cases h : ltC (r, now) (ky z) with
          | true => exact h
          | false =>
            have a1 := ltC_as (p1 z hz)
            have a2 := ltC_tr h a1
            rw [show ltC (r, now) (ky y) = true from hry] at a2
            exact nomatch a2
      · show en (r, now, it) :: (en y :: s.map en) = List.takeWhile (fun x => !HT.lexLt r x.1) (en y :: s.map en) ++ (r, it) :: List.dropWhile (fun x => !HT.lexLt r x.1) (en y :: s.map en)
        rw [List.takeWhile_cons, List.dropWhile_cons, if_neg (by show ¬ (!HT.lexLt r y.1) = true; rw [hc]; decide), if_neg (by show ¬ (!HT.lexLt r y.1) = true; rw [hc]; decide)]
        rfl
    | false =>
      refine ⟨y :: s', (List.Perm.cons y h1).trans (List.Perm.swap ..), List.pairwise_cons.mpr ⟨fun z hz => ?_, h2⟩, ?_⟩
      · rcases List.mem_cons.mp (h1.mem_iff.mp hz) with rfl | hz
        · show ltC (y.1, y.2.1) (r, now) = true
          unfold ltC
          by_cases e : y.1 = r
          · rw [if_pos e]
            exact decide_eq_true (hl y (List.mem_cons_self ..))
          · rw [if_neg e]
            cases h : HT.lexLt y.1 r with
            | true => rfl
            | false => exact absurd (lex_tot0 _ _ h hc) e
        · exact p1 z hz
      · unfold insE at h3 ⊢
        rw [List.map_cons, List.map_cons, List.takeWhile_cons, List.dropWhile_cons, if_pos (by show (!HT.lexLt r y.1) = true; rw [hc]; rfl), if_pos (by show (!HT.lexLt r y.1) = true; rw [hc]; rfl), h3]
        rfl
theorem Bg.put {b : List Tr} {l : List En} {now : Int} (h : Bg b l now) (r : List Int) (it : Int) : Bg (b ++ [(r, now, it)]) (insE l (r, it)) (now + 1) := by
  obtain ⟨s, h1, h2, rfl⟩ := h.ex
  obtain ⟨s', g1, g2, g3⟩ := ins_sort (now := now) (r := r) (it := it) h2 fun e he => h.lt e (h1.mem_iff.mp he)
  refine ⟨⟨s', g1.trans ((List.Perm.cons _ h1).trans (List.perm_append_comm (l₁ := [(r, now, it)]) (l₂ := b))), g2, g3.symm⟩, fun e he => ?_, ?_⟩
  · rcases List.mem_append.mp he with he | he
    · have := h.lt e he
      omega
    · rw [List.mem_singleton.mp he]
      show now < now + 1
      omega
  · refine List.pairwise_append.mpr ⟨h.ne, List.pairwise_singleton .., fun x hx y hy => ?_⟩
    rw [List.mem_singleton.mp hy]
    have := h.lt x hx
    show x.2.1 ≠ now
    omega
theorem eraseIdx_perm {α : Type} : ∀ {l : List α} {j : Nat} {e : α}, l[j]? = some e → l.Perm (e :: l.eraseIdx j)
  | [], j, e, h => by simp at h
  | a :: l, 0, e, h => by
    have : a = e := Option.some.inj h
    subst this
    exact List.Perm.refl _
  | a :: l, j + 1, e, h => (List.Perm.cons a (eraseIdx_perm (l := l) (j := j) (by simpa using h))).trans (List.Perm.swap ..)
/-- the least one goes -/
theorem Bg.cut {b : List Tr} {l : List En} {now : Int} (h : Bg b l now) {j : Nat} {e : Tr} (hj : b[j]? = some e) (hm : ∀ x ∈ b, ltC (ky x) (ky e) = false) : l = en e :: l.tail ∧ Bg (b.eraseIdx j) l.tail now := by
  obtain ⟨s, h1, h2, rfl⟩ := h.ex
  have he := List.mem_of_getElem? hj
  have hes := h1.mem_iff.mpr he
  cases s with
  | nil => exact nomatch hes
  | cons a s =>
    obtain ⟨p1, p2⟩ := List.pairwise_cons.mp h2
    have ea : a = e := by
      rcases List.mem_cons.mp hes with z | z
      · exact z.symm
      · have := hm a (h1.mem_iff.mp (List.mem_cons_self ..))
        rw [p1 e z] at this
        exact nomatch this
    subst ea
    refine ⟨rfl, ⟨s, ?_, p2, rfl⟩, fun x hx => h.lt x (List.mem_of_mem_eraseIdx hx), ?_⟩
    · exact List.Perm.cons_inv (h1.trans (eraseIdx_perm hj))
    · exact h.ne.sublist (List.eraseIdx_sublist ..)
theorem Bg.least {b : List Tr} {l : List En} {now : Int} (h : Bg b l now) {r : List Int} {it : Int} {t : List En} (e : l = (r, it) :: t) {x : Tr} (hx : x ∈ b) (hm : ∀ y ∈ b, ltC (ky y) (ky x) = false) : x.1 = r ∧ x.2.2 = it := by
  obtain ⟨j, hj⟩ := List.mem_iff_getElem?.mp hx
  obtain ⟨h1, _⟩ := h.cut hj hm
  rw [e] at h1
  injection h1 with h1 _
  have := congrArg Prod.fst h1
  have h2 := congrArg Prod.snd h1
  exact ⟨this.symm, h2.symm⟩
theorem eqv_ints (ns ms : List Int) : PyData.eqv (intsD ns) (intsD ms) = decide (ns = ms) := by
  unfold intsD
  rw [PyData.eqv]
  exact PySem.W.ked_eqvAll ns ms
theorem eqv_tr (e d : Tr) : PyData.eqv (trD e) (trD d) = decide (e = d) := by
  obtain ⟨a, b, c⟩ := e
  obtain ⟨a', b', c'⟩ := d
  have h1 : PyData.eqv (trD (a, b, c)) (trD (a', b', c')) = (PyData.eqv (intsD a) (intsD a') && (PyData.eqv (.int b) (.int b') && (PyData.eqv (.int c) (.int c') && true))) := by
    unfold trD
    simp [PyData.eqv, PyData.eqvAll]
  rw [h1, eqv_ints]
  have h2 : ∀ i j : Int, PyData.eqv (.int i) (.int j) = decide (i = j) := fun i j => by
    have h3 : PyData.eqv (.int i) (.int j) = (i == j) := by simp [PyData.eqv]
    rw [h3]
    by_cases e : i = j
    · rw [e, decide_eq_true rfl]
      exact beq_self_eq_true j
    · rw [decide_eq_false e]
      exact beq_false_of_ne e
  rw [h2, h2, Bool.and_true]
  by_cases e1 : a = a'
  · by_cases e2 : b = b'
    · by_cases e3 : c = c'
      · subst e1 e2 e3; simp
      · simp [e3]
    · simp [e2]
  · simp [e1]
theorem shaped_tr (e : Tr) : SeqAt.shaped (trD e) = true := by
  have : Shp 2 (trD e) := shp_tup fun d hd => by
    rcases List.mem_cons.mp hd with rfl | hd
    · exact shp_ints
    · rcases List.mem_cons.mp hd with rfl | hd
      · exact shp_int
      · rw [List.mem_singleton.mp hd]
        exact shp_int
  unfold SeqAt.shaped
  rw [this.1, decide_eq_true (Nat.le_trans this.2 (by decide))]
  rfl
/-- the first equal one -/
theorem first_tr {b : List Tr} {e : Tr} (h : e ∈ b) : ∃ j : Nat, b[j]? = some e ∧ ∀ m : Nat, m < j → b[m]? ≠ some e := by
  induction b with
  | nil => exact nomatch h
  | cons a b ih =>
    by_cases z : a = e
    · exact ⟨0, by rw [z]; rfl, fun m hm => absurd hm (Nat.not_lt_zero _)⟩
    · obtain ⟨j, h1, h2⟩ := ih ((List.mem_cons.mp h).resolve_left fun q => z q.symm)
      refine ⟨j + 1, by simpa using h1, fun m hm => ?_⟩
      cases m with
      | zero => exact fun q => z (Option.some.inj q)
      | succ m => simpa using h2 m (by omega)
end K26
set_option Elab.async false
set_option linter.all false
set_option maxRecDepth 100000
set_option maxHeartbeats 8000000
namespace K26
open PySem PySem.Spec PyProof.Rows L2 Dt
/-! ### the law's bags in memory -/
structure BgE (K : PySem.W.Frag) (S : List Addr) (H : Hp) (bg : Addr) (Bs : List Addr) (T : Dt) (B : Bgs) : Prop where
  sub : ∀ y ∈ Bs, y ∈ S
  al : ∀ y ∈ S, H y ≠ none
  nd : Bs.Nodup
  ln : offS S H bg = some (.lst (Bs.map V.ref))
  len : Bs.length = T.nodes
  li : ∀ q ∈ ad T, ∃ b xs, Bs[T.idx q]? = some b ∧ H b = some (.lst xs) ∧ DpAll K (offS S H) xs ((B q).map trD)
section
variable {K : PySem.W.Frag} {S : List Addr} {H H' : Hp} {bg : Addr} {Bs : List Addr} {T : Dt} {B : Bgs}
theorem BgE.keep {M : List Addr} (s : BgE K S H bg Bs T B) (g : GoS M H H') (h : ∀ y ∈ M, y ∈ S) (n : ∀ y ∈ M, y ∉ Bs) : BgE K S H' bg Bs T B := by
  have gs : Same (offS S H) (offS S H') := (g.wide h).s
  refine ⟨s.sub, fun y hy => g.k y (s.al y hy), s.nd, gs _ _ s.ln, s.len, fun q hq => ?_⟩
  obtain ⟨l, xs, h1, h2, h3⟩ := s.li q hq
  exact ⟨l, xs, h1, g.at h2 fun z => n l z (List.mem_of_getElem? h1), dps_same gs h3⟩
theorem BgE.same (s : BgE K S H bg Bs T B) (e : Same H H') : BgE K S H' bg Bs T B :=
  s.keep (M := []) (GoS.of e) (fun y h => by simp at h) fun y h => by simp at h
theorem BgE.grow {N : List Addr} {H0 : Hp} (s : BgE K S H0 bg Bs T B) (e : Same H0 H) (h : ∀ y ∈ N, H0 y = none) (h2 : ∀ y ∈ N, H y ≠ none) : BgE K (N ++ S) H bg Bs T B := by
  have gs := offS_grow (S := S) e h
  refine ⟨fun y hy => List.mem_append_right _ (s.sub y hy), fun y hy => (List.mem_append.mp hy).elim (h2 y) fun z => same_al e (s.al y z), s.nd, gs _ _ s.ln, s.len, fun q hq => ?_⟩
  obtain ⟨l, xs, h1, h2, h3⟩ := s.li q hq
  exact ⟨l, xs, h1, e _ _ h2, dps_same gs h3⟩
theorem BgE.shrink {S' : List Addr} (s : BgE K S' H bg Bs T B) (h : ∀ y ∈ S, y ∈ S') (g : ∀ y ∈ Bs, y ∈ S) : BgE K S H bg Bs T B := by
  have gs := offS_sub (H := H) h
  refine ⟨g, fun y hy => s.al y (h y hy), s.nd, gs _ _ s.ln, s.len, fun q hq => ?_⟩
  obtain ⟨l, xs, h1, h2, h3⟩ := s.li q hq
  exact ⟨l, xs, h1, h2, dps_same gs h3⟩
theorem BgE.with (s : BgE K S H bg Bs T B) {p : Addr} {v : HO} (h : H p = none) : BgE K (p :: S) (upd H p v) bg Bs T B :=
  s.grow (N := [p]) (same_new h) (fun y hy => by rw [List.mem_singleton.mp hy]; exact h) fun y hy => by
    rw [List.mem_singleton.mp hy, upd_same]
    exact fun z => nomatch z
theorem BgE.mut (s : BgE K S H bg Bs T B) {p : Addr} {v : HO} (h : p ∈ S) (n : p ∉ Bs) : BgE K S (upd H p v) bg Bs T B :=
  s.keep (M := [p]) (GoS.refl.upd (List.mem_singleton.mpr rfl)) (fun y hy => by rw [List.mem_singleton.mp hy]; exact h) fun y hy => by rw [List.mem_singleton.mp hy]; exact n
theorem BgE.setB (s : BgE K S H bg Bs T B) {q : Ad} {l : Addr} {xs : List V} {es : List Tr} (hq : q ∈ ad T) (hl : Bs[T.idx q]? = some l) (hx : DpAll K (offS S H) xs (es.map trD)) :
    BgE K S (upd H l (.lst xs)) bg Bs T (fun r => if r = q then es else B r) := by
  have hm : l ∈ S := s.sub l (List.mem_of_getElem? hl)
  have gG : GoS S H (upd H l (.lst xs)) := (GoS.refl (S := S)).upd hm
  have gs := gG.s
  refine ⟨s.sub, fun y hy => gG.k y (s.al y hy), s.nd, gs _ _ s.ln, s.len, fun r hr => ?_⟩
  by_cases e : r = q
  · rw [e, if_pos rfl]
    exact ⟨l, xs, hl, upd_same, dps_same gs hx⟩
  · rw [if_neg e]
    obtain ⟨l', xs', g1, g2, g3⟩ := s.li r hr
    refine ⟨l', xs', g1, ?_, dps_same gs g3⟩
    rw [upd_ne]
    · exact g2
    · intro z
      rw [z] at g1
      obtain ⟨b1, c1⟩ := List.getElem?_eq_some_iff.mp g1
      obtain ⟨b2, c2⟩ := List.getElem?_eq_some_iff.mp hl
      have := (List.getElem_inj s.nd).mp (c1.trans c2.symm)
      exact e (idx_inj hr hq this)
end
def Rel (T : Dt) (B : Bgs) (L : Lns) (now : Int) : Prop := ∀ q ∈ ad T, Bg (B q) (L q) now
theorem dps_tr {K : PySem.W.Frag} {H : Hp} {xs : List V} {l : List Tr} (h : DpAll K H xs (l.map trD)) {i : Nat} {v : V} (hv : xs[i]? = some v) : ∃ e b rv, l[i]? = some e ∧ v = .ref b ∧ SqT K H b [rv, .int e.2.1, .int e.2.2] ∧ Dp K H rv (intsD e.1) := by
  obtain ⟨d, h1, h2⟩ := dps_at h hv
  rw [List.getElem?_map] at h1
  obtain ⟨e, h3, rfl⟩ := Option.map_eq_some_iff.mp h1
  cases h2 with
  | @tup b ys _ hs ha =>
    cases ha with
    | cons g1 ha =>
      cases ha with
      | cons g2 ha =>
        cases ha with
        | cons g3 ha =>
          cases ha
          cases g2
          cases g3
          exact ⟨e, b, _, h3, rfl, hs, g1⟩
theorem dp_intsV {K : PySem.W.Frag} {H : Hp} : ∀ {vs : List V} {ns : List Int}, DpAll K H vs (ns.map PyData.int) → vs = ns.map V.int
  | _, [], .nil => rfl
  | _, n :: ns, .cons h t => by
    cases h
    rw [dp_intsV t]
    rfl
theorem dp_rankV {K : PySem.W.Frag} {H : Hp} {v : V} {ns : List Int} (h : Dp K H v (intsD ns)) : ∃ a, v = .ref a ∧ SqT K H a (ns.map V.int) := by
  cases h with
  | @tup b ys _ hs ha =>
    rw [dp_intsV ha] at hs
    exact ⟨b, rfl, hs⟩
/-- a bag as min sees it -/
theorem tri_bag {K : PySem.W.Frag} {H : Hp} : ∀ {xs : List V} {l : List Tr}, DpAll K H xs (l.map trD) → Paired (TriV K H) xs (l.map ky)
  | _, [], .nil => .nil
  | _, e :: l, .cons h t => by
    refine .cons ?_ (tri_bag t)
    cases h with
    | @tup b ys _ hs ha =>
      cases ha with
      | cons g1 ha =>
        cases ha with
        | cons g2 ha =>
          cases ha with
          | cons g3 ha =>
            cases ha
            cases g2
            cases g3
            obtain ⟨a, rfl, g⟩ := dp_rankV g1
            exact ⟨b, a, _, rfl, hs, g⟩
theorem dps_erase {K : PySem.W.Frag} {H : Hp} : ∀ {xs : List V} {ds : List PyData} (j : Nat), DpAll K H xs ds → DpAll K H (xs.eraseIdx j) (ds.eraseIdx j)
  | _, _, _, .nil => .nil
  | _, _, 0, .cons _ t => t
  | _, _, j + 1, .cons h t => .cons h (dps_erase j t)
theorem map_erase {α β : Type} (f : α → β) : ∀ (l : List α) (j : Nat), (l.map f).eraseIdx j = (l.eraseIdx j).map f
  | [], _ => rfl
  | a :: l, 0 => rfl
  | a :: l, j + 1 => congrArg (f a :: ·) (map_erase f l j)
end K26
set_option Elab.async false
set_option linter.all false
set_option maxRecDepth 100000
set_option maxHeartbeats 8000000
namespace K26
open PySem PySem.Spec PyProof.Rows L2 Dt
/-! ### _law_take -/
theorem call_len_seqK {X : Cx} {K : PySem.W.Frag} (hK : X.K = K) : CallR X (.builtin "len") (rLenQ K) := by
  subst hK
  exact call_len_seq
theorem un65 {k : Nat} {A : Around} (hr : Room k A) : A.units + 65 < cLine := by have := hr.un; omega
theorem un70 {k : Nat} {A : Around} (hr : Room k A) : A.units + 70 < cLine := by have := hr.un; omega
def cutA (q0 p : Ad) (L : Lns) : Lns := fun q => if q0 <+: q ∧ q <+: q0 ++ p then (L q).tail else L q
def cutAK (q0 p : Ad) (L : Lns) (k : Nat) : Lns := fun q => if (q0 <+: q ∧ q <+: q0 ++ p) ∧ q.length < q0.length + k then (L q).tail else L q
theorem cutAK_zero (q0 p : Ad) (L : Lns) : cutAK q0 p L 0 = L := by
  funext q
  unfold cutAK
  rw [if_neg (fun z => by have := z.1.1.length_le; omega)]
theorem cutAK_full (q0 p : Ad) (L : Lns) : cutAK q0 p L (p.length + 1) = cutA q0 p L := by
  funext q
  unfold cutAK cutA
  by_cases h : q0 <+: q ∧ q <+: q0 ++ p
  · rw [if_pos ⟨h, by have := h.2.length_le; rw [List.length_append] at this; omega⟩, if_pos h]
  · rw [if_neg (fun z => h z.1), if_neg h]
theorem cutAK_succ (q0 p : Ad) (L : Lns) (k : Nat) (hk : k ≤ p.length) : cutAK q0 p L (k + 1) = fun q => if q = q0 ++ p.take k then (L (q0 ++ p.take k)).tail else cutAK q0 p L k q := by
  funext q
  have hl : (q0 ++ p.take k).length = q0.length + k := by rw [List.length_append, List.length_take]; omega
  by_cases e : q = q0 ++ p.take k
  · rw [if_pos e, e]
    unfold cutAK
    rw [if_pos ⟨⟨List.prefix_append .., by rw [List.prefix_append_right_inj]; exact List.take_prefix ..⟩, by omega⟩]
  · rw [if_neg e]
    unfold cutAK
    by_cases h : (q0 <+: q ∧ q <+: q0 ++ p) ∧ q.length < q0.length + k
    · rw [if_pos h, if_pos ⟨h.1, by omega⟩]
    · rw [if_neg h, if_neg (fun z => ?_)]
      have h1 : ¬ q.length < q0.length + k := fun y => h ⟨z.1, y⟩
      have h2 : q.length = q0.length + k := by omega
      obtain ⟨s, rfl⟩ := z.1.1
      rw [List.length_append] at h2
      have h3 : s <+: p := by
        have := z.1.2
        rw [List.prefix_append_right_inj] at this
        exact this
      refine e ?_
      rw [List.prefix_iff_eq_take.mp h3, show s.length = k by omega]
theorem cutAK_at (q0 p : Ad) (L : Lns) (k : Nat) (hk : k ≤ p.length) : cutAK q0 p L k (q0 ++ p.take k) = L (q0 ++ p.take k) := by
  have hl : (q0 ++ p.take k).length = q0.length + k := by rw [List.length_append, List.length_take]; omega
  unfold cutAK
  rw [if_neg (fun z => by omega)]
theorem cutA_nil (p : Ad) (L : Lns) : cutA [] p L = cutL p L := by
  funext q
  unfold cutA cutL
  rw [List.nil_append]
  by_cases h : q <+: p
  · rw [if_pos ⟨List.nil_prefix .., h⟩, if_pos h]
  · rw [if_neg (fun z => h z.2), if_neg h]
theorem at_cutA (q0 p : Ad) (L : Lns) : at_ q0 (cutA q0 p L) = cutL p (at_ q0 L) := by
  funext q
  unfold at_ cutA cutL
  by_cases h : q <+: p
  · rw [if_pos ⟨List.prefix_append .., by rw [List.prefix_append_right_inj]; exact h⟩, if_pos h]
  · rw [if_neg (fun z => h (by have := z.2; rw [List.prefix_append_right_inj] at this; exact this)), if_neg h]
theorem pth_lastV {T : Dt} {p : Ad} : atI (pth T p (p.length + 1)) (((pth T p (p.length + 1)).length : Int) - 1) = some (V.int (T.idx p : Nat)) := by
  have e : (((pth T p (p.length + 1)).length : Nat) : Int) - 1 = ((p.length : Nat) : Int) := by rw [pth_len]; omega
  rw [e]
  have := pth_at (T := T) (p := p) (n := p.length + 1) (k := p.length) (by omega)
  rw [List.take_length] at this
  exact atI_nat this
def spTake (K : PySem.W.Frag) : Sp := fun vs H Q _ => ∃ (tr bg : Addr) (S Bs : List Addr) (T u : Dt) (B : Bgs) (L : Lns) (now : Int) (q0 : Ad), vs = [.ref tr, .ref bg, .int (T.idx q0 : Nat)] ∧ LawT K (offS S H) tr T ∧ BgE K S H bg Bs T B ∧ Rel T B L now ∧ sub T q0 = some u ∧ Con u (at_ q0 L) ∧ T.ht < 20 ∧ T.nodes ≤ 1000 ∧ (∀ q, (B q).length ≤ 100000) ∧
  (L q0 = [] → ∀ H', Same H H' → Q .non H') ∧
  (∀ n p rs i B', Dep u (at_ q0 L) n p rs → (lv T)[i]? = some (q0 ++ p) → ∀ H' v, GoS Bs H H' → BgE K S H' bg Bs T B' → (∀ q, (B' q).length ≤ (B q).length) → Rel T B' (cutA q0 p L) now → H v = none → Dp K (offS S H') (.ref v) (depD n i rs) → Q (.ref v) H')
section
variable {P : Program} {w : World} {K : PySem.W.Frag} {mg : Str → Option Value} {base : Heap}
theorem ok_take (D : DefAt K mg "_law_take" s_law_take ["tree", "bags", "start"]) (T0 : Txt K mg) : CalX P w K mg base CX0 1 "_law_take" ["tree", "bags", "start"] (spTake K) := by
  refine D.ok sc_law_take (fun vs H Q E h => ?_) (fun f cdv A outer s H vs Q E hr h => ?_)
  · obtain ⟨tr, bg, S, Bs, T, u, B, L, now, q0, rfl, _⟩ := h
    rfl
  obtain ⟨tr, bg, S, Bs, T, u, B, L, now, q0, rfl, hlt, hB, hR, hu0, con, hht, hno, hBl, q1, q2⟩ := h
  have hu := hu_of hr
  refine ⟨_, (pss_cons (ps_set (i := 3) sc_law_take.nd rfl (.inl rfl) (pv 2)) 
    (pss_cons (ps_set (i := 4) sc_law_take.nd rfl (.inl rfl) (pe_lst pa_nil)) 
    (pss_one (ps_for PassesOwn.never rfl (pi_range1 (by rfl) T0.range (pa_cons (pe_callB call_len_seq (by rfl) T0.len PySem.boot_len (pa_cons (pv 1) pa_nil)) pa_nil)) (pg_name (i := 5) sc_law_take.nd rfl (Or.inl rfl)) 
      (pss_cons (ps_if (pt_cmpR op_eq (pe_callB call_len_seq (by rfl) T0.len PySem.boot_len (pa_cons (pe_ix ix_list (pv 1) (pv 3) (fun _ _ => rfl)) pa_nil)) pe_int (nomark _)) 
        (pss_one (ps_ret pe_non)) pss_nil) 
      (pss_cons (ps_set (i := 6) sc_law_take.nd rfl (.inl rfl) (pe_callB (cr_min3 rfl (un65 hr)) (by rfl) T0.min (by decide +kernel) (pa_cons (pe_ix ix_list (pv 1) (pv 3) (fun _ _ => rfl)) pa_nil))) 
      (pss_cons (ps_expr (pe_bm PySem.F.plainAttrs_list PySem.F.slot_list_remove PySem.F.type_list_remove (mt_removeD (un70 hr)) (pe_ix ix_list (pv 1) (pv 3) (fun _ _ => rfl)) (pa_cons (pv 6) pa_nil))) 
      (pss_cons (ps_expr (pe_bm PySem.F.plainAttrs_list PySem.F.slot_list_append PySem.F.type_list_append mt_append (pv 4) (pa_cons (pe_ix ix_tup (pv 6) pe_int (fun _ _ => rfl)) pa_nil))) 
      (pss_cons (ps_if (pt_cmpR op_eq (pe_ix ix_tup (pe_ix ix_list (pe_ix ix_list (pv 0) pe_int (fun _ _ => rfl)) (pv 3) (fun _ _ => rfl)) pe_int (fun _ _ => rfl)) pe_int (nomark _)) 
        (pss_one (ps_ret (pe_tup (pa_cons (pe_ix ix_tup (pv 6) pe_int (fun _ _ => rfl)) (pa_cons (pe_bm PySem.F.plainAttrs_list PySem.F.slot_list_index PySem.F.type_list_index mt_index (pe_lc (own := [("path", 7)]) (g := gName 7) (tt := tYes) (by rfl) sc_law_take.nd (pi_list (pe_ix ix_list (pv 0) pe_int (fun _ _ => rfl))) (blkOk_by (own := [("path", 7)]) (N := N_law_take) (sc := defScope s_law_take) (by decide +kernel)) (fun _ _ _ _ _ => pg_name (i := 7) sc_law_take.nd rfl (Or.inl rfl)) (fun _ _ _ _ _ => pts_nil) (fun _ _ _ _ _ => by exact (pe_ix (ix_listK (K := K) (by exact rfl)) (pv 7) (pe_op op_sub (pe_callB (call_len_seqK (K := K) (by exact rfl)) (by rfl) T0.len PySem.boot_len (pa_cons (pv 7) pa_nil)) pe_int) (fun _ _ => rfl)))) (pa_cons (pv 3) pa_nil)) (pa_cons (pe_callTy call_tuple_of (by rfl) T0.tuple PyProof.Rows.boot_tuple (pa_cons (pv 4) pa_nil)) pa_nil)))))) pss_nil) 
      (pss_one (ps_set (i := 3) sc_law_take.nd rfl (.inl rfl) (pe_dget hu (pe_ix ix_list (pv 0) pe_int (fun _ _ => rfl)) (pe_tup (pa_cons (pv 3) (pa_cons (pe_ix ix_tup (pv 6) pe_int (fun _ _ => rfl)) pa_nil))) (fun _ _ => rfl))))))))))))), ?_⟩
  have hq0 := sub_ad hu0
  have hnp := T.nodes_pos
  have hsl := sizeLine_eq
  refine ⟨_, rfl, (by show 0 ≤ sizeLine; decide), fun rl hrl => ?_⟩
  have B1 := hB.with (v := .lst []) hrl
  have hrlS : rl ∉ Bs := fun z => hB.al rl (hB.sub rl z) hrl
  have g1 : GoS Bs H (upd H rl (.lst [])) := GoS.refl.new hrl
  have s1 : Same H (upd H rl (.lst [])) := same_new hrl
  have r1 : (upd H rl (.lst [])) rl = some (.lst []) := upd_same
  revert B1 g1 s1 r1
  generalize upd H rl (.lst []) = H1
  intro B1 g1 s1 r1
  refine ⟨_, rfl, bg, _, rfl, .inl (SqL.of (offS_some B1.ln).2), ?_⟩
  rw [List.length_map, hB.len]
  by_cases he : L q0 = []
  · refine ⟨_, rfl, by omega, by omega, for_range (lo := 0) (n := T.nodes) (fun k σ H' => k = 0 ∧ H' = H1 ∧ ∃ o5 o6 o7, σ = [some (.ref tr), some (.ref bg), some (.int (T.idx q0 : Nat)), some (.int (T.idx q0 : Nat)), some (.ref rl), o5, o6, o7]) ⟨rfl, rfl, _, _, _, rfl⟩ ?_ ?_⟩
    · rintro k σ H' hk ⟨rfl, rfl, o5, o6, o7, rfl⟩
      obtain ⟨b, xs, k1, k2, k3⟩ := B1.li q0 hq0
      have hb0 : B q0 = [] := List.eq_nil_of_length_eq_zero (by rw [← (hR q0 hq0).len, he]; rfl)
      rw [hb0] at k3
      cases k3
      refine ⟨_, rfl, _, rfl, bg, _, _, _, rfl, rfl, SqL.of (offS_some B1.ln).2, (atI_nat (by rw [List.getElem?_map, k1]; rfl)), b, _, rfl, .inl (SqL.of k2), rfl, _, rfl, ?_⟩
      refine iteT ?_
      exact q1 he _ s1
    · rintro σ H' ⟨h, _⟩
      omega
  obtain ⟨n, p, rs, d⟩ := dep_ex _ u (at_ q0 L) (Nat.le_refl _) con (by rw [at_nil]; exact he)
  obtain ⟨wl, hwl, hwl2⟩ := d.lf
  have hsp : sub T (q0 ++ p) = some wl := by rw [(sub_app T q0 u hu0 p).1]; exact hwl
  have hpl : q0 ++ p ∈ lv T := List.mem_filter.mpr ⟨sub_ad hsp, by rw [isLf_o hsp, hwl2]; rfl⟩
  obtain ⟨i, hi⟩ := List.mem_iff_getElem?.mp hpl
  have hpn : p.length < T.nodes := by
    have z1 := len_idx T (q0 ++ p) wl hsp
    have z2 := idx_lt hsp
    have z3 := wl.nodes_pos
    rw [List.length_append] at z1
    omega
  refine ⟨_, rfl, by omega, by omega, for_range (lo := 0) (n := T.nodes) (fun k σ H' => k ≤ p.length ∧ ∃ (o5 o6 o7 : Option V) (vs : List V) (Bk : Bgs), σ = [some (.ref tr), some (.ref bg), some (.int (T.idx q0 : Nat)), some (.int (T.idx (q0 ++ p.take k) : Nat)), some (.ref rl), o5, o6, o7] ∧ GoS Bs H H' ∧ BgE K (rl :: S) H' bg Bs T Bk ∧ (∀ q, (Bk q).length ≤ (B q).length) ∧ Rel T Bk (cutAK q0 p L k) now ∧ H' rl = some (.lst vs) ∧ DpAll K (offS (rl :: S) H') vs ((rs.take k).map intsD))
    ⟨Nat.zero_le _, none, none, none, [], B, by rw [List.take_zero, List.append_nil]; rfl, g1, B1, fun q => Nat.le_refl _, by rw [cutAK_zero]; exact hR, r1, .nil⟩ ?_ ?_⟩
  · rintro k σ H2 hk ⟨hkp, o5, o6, o7, vs, Bk, rfl, g2, B2, hBk, R2, hr2, hv2⟩
    have hq : q0 ++ p.take k ∈ ad T := pre_ad (sub_ad hsp) (by rw [List.prefix_append_right_inj]; exact List.take_prefix ..)
    obtain ⟨b, xs, k1, k2, k3⟩ := B2.li _ hq
    have hBg := R2 _ hq
    rw [cutAK_at q0 p L k hkp] at hBg
    -- the entry that departs here
    obtain ⟨r, nn, t, hLt, hrk, hnn⟩ : ∃ r nn t, L (q0 ++ p.take k) = (r, nn) :: t ∧ rs[k]? = some r ∧ ((∃ (hk2 : k < p.length), nn = ((p[k] : Nat) : Int)) ∨ (k = p.length ∧ nn = n)) := by
      rcases Nat.lt_or_eq_of_le hkp with z | z
      · obtain ⟨r, t, e1, e2⟩ := d.hd k p[k] (List.getElem?_eq_getElem z)
        exact ⟨r, _, t, e1, e2, .inl ⟨z, rfl⟩⟩
      · obtain ⟨r, t, e1, e2⟩ := d.la
        subst z
        rw [List.take_length]
        exact ⟨r, n, t, e1, e2, .inr ⟨rfl, rfl⟩⟩
    have hxl := dps_len k3
    rw [List.length_map] at hxl
    have hlb := hBg.len
    have hpos : 0 < xs.length := by rw [hxl, ← hlb, hLt]; exact Nat.zero_lt_succ _
    have hBq := hBk (q0 ++ p.take k)
    have hBq2 := hBl (q0 ++ p.take k)
    have hlnB := (offS_some B2.ln).2
    have hat : atI (Bs.map V.ref) (T.idx (q0 ++ p.take k) : Nat) = some (.ref b) := atI_nat (by rw [List.getElem?_map, k1]; rfl)
    refine ⟨_, rfl, _, rfl, bg, _, _, _, rfl, rfl, SqL.of hlnB, hat, b, _, rfl, .inl (SqL.of k2), rfl, _, rfl, ?_⟩
    have e0 : (decide (V.int (xs.length : Nat) = V.int 0)) = false := decide_eq_false fun z => by injection z with z; omega
    rw [e0]
    refine iteF ?_
    have hk3 := dps_same offS_same k3
    refine ⟨_, rfl, _, rfl, bg, _, _, _, rfl, rfl, SqL.of hlnB, hat, b, xs, _, rfl, SqL.of k2, hpos, tri_bag hk3, ?_, fun m x kx hx hkx hmin => ?_⟩
    · rw [List.pairwise_map]
      exact hBg.ne
    rw [List.getElem?_map] at hkx
    obtain ⟨e, he1, rfl⟩ := Option.map_eq_some_iff.mp hkx
    have hmin2 : ∀ y ∈ Bk (q0 ++ p.take k), ltC (ky y) (ky e) = false := fun y hy => hmin _ (List.mem_map_of_mem hy)
    have hem := List.mem_of_getElem? he1
    obtain ⟨ee1, ee2⟩ := hBg.least hLt hem hmin2
    obtain ⟨e', be, rv, z1, rfl, z2, z3⟩ := dps_tr k3 hx
    rw [he1] at z1
    obtain rfl := Option.some.inj z1
    obtain ⟨j, hj1, hj2⟩ := first_tr hem
    obtain ⟨c1, c2⟩ := hBg.cut hj1 hmin2
    have hxdp : Dp K H2 (.ref be) (trD e) := .tup (same_sqt offS_same z2) (.cons (dp_same offS_same z3) (.cons (.int _) (.cons (.int _) .nil)))
    refine ⟨_, rfl, _, rfl, bg, _, _, _, rfl, rfl, SqL.of hlnB, hat, ?_⟩
    refine ⟨.inl ⟨rfl, _, SqL.of k2⟩, _, rfl, ?_⟩
    refine ⟨b, xs, .ref be, _, trD e, j, trD e, rfl, rfl, k2, hk3, hxdp, (fun d hd => by
      obtain ⟨y, _, rfl⟩ := List.mem_map.mp hd
      exact shaped_tr y), shaped_tr e, (by rw [List.getElem?_map, hj1]; rfl), (by rw [eqv_tr]; exact decide_eq_true rfl), (fun m z' hm hz' => by
      rw [List.getElem?_map] at hz'
      obtain ⟨y, hy, rfl⟩ := Option.map_eq_some_iff.mp hz'
      rw [eqv_tr]
      exact decide_eq_false fun q => hj2 m hm (by rw [hy, q])), ?_⟩
    have hbS : b ∈ rl :: S := B2.sub b (List.mem_of_getElem? k1)
    have hbB : b ∈ Bs := List.mem_of_getElem? k1
    have nrb : rl ≠ b := fun z => hrlS (by rw [z]; exact hbB)
    have B3 := B2.setB (q := q0 ++ p.take k) (es := (Bk (q0 ++ p.take k)).eraseIdx j) (xs := xs.eraseIdx j) hq k1 (by rw [← map_erase]; exact dps_erase j k3)
    have g3 : GoS Bs H (upd H2 b (.lst (xs.eraseIdx j))) := g2.upd hbB
    have gg3 : GoS (rl :: S) H2 (upd H2 b (.lst (xs.eraseIdx j))) := GoS.refl.upd hbS
    have r3 : (upd H2 b (.lst (xs.eraseIdx j))) rl = some (.lst vs) := by rw [upd_ne nrb]; exact hr2
    revert B3 g3 gg3 r3
    generalize upd H2 b (.lst (xs.eraseIdx j)) = H3
    intro B3 g3 gg3 r3
    have hv3 := dps_same gg3.s hv2
    have z23 := same_sqt gg3.s z2
    have z33 := dp_same gg3.s z3
    have hvl := dps_len hv2
    rw [List.length_map, List.length_take, d.len] at hvl
    have hlen20 : p.length ≤ 1000 := by omega
    refine ⟨_, rfl, .inl ⟨rfl, _, SqL.of r3⟩, ?_⟩
    refine ⟨_, rfl, be, _, 0, rv, rfl, rfl, same_sqt offS_same z23, rfl, ?_⟩
    refine ⟨rl, vs, rv, rfl, rfl, r3, small1000 (by omega), ?_⟩
    have hrlm : rl ∈ rl :: S := List.mem_cons_self ..
    have B4 := B3.mut (p := rl) (v := .lst (vs ++ [rv])) hrlm hrlS
    have g4 : GoS Bs H (upd H3 rl (.lst (vs ++ [rv]))) := g3.mutNew hrl
    have gg4 : GoS (rl :: S) H3 (upd H3 rl (.lst (vs ++ [rv]))) := GoS.refl.upd hrlm
    have r4 : (upd H3 rl (.lst (vs ++ [rv]))) rl = some (.lst (vs ++ [rv])) := upd_same
    revert B4 g4 gg4 r4
    generalize upd H3 rl (.lst (vs ++ [rv])) = H4
    intro B4 g4 gg4 r4
    have z24 := same_sqt gg4.s z23
    have hv4 : DpAll K (offS (rl :: S) H4) (vs ++ [rv]) ((rs.take (k + 1)).map intsD) := by
      rw [List.take_add_one, hrk, Option.toList_some, List.map_append]
      have := dps_same gg4.s (dps_snoc' hv3 z33)
      rw [ee1] at this
      exact this
    have hB4l : ∀ q, ((fun r => if r = q0 ++ p.take k then (Bk (q0 ++ p.take k)).eraseIdx j else Bk r) q).length ≤ (B q).length := fun q => by
      dsimp only
      split
      · rename_i e
        rw [e, List.length_eraseIdx]
        split <;> omega
      · exact hBk q
    have R4 : Rel T (fun r => if r = q0 ++ p.take k then (Bk (q0 ++ p.take k)).eraseIdx j else Bk r) (cutAK q0 p L (k + 1)) now := fun q hqa => by
      rw [cutAK_succ q0 p L k hkp]
      dsimp only
      by_cases e : q = q0 ++ p.take k
      · rw [if_pos e, if_pos e]
        exact c2
      · rw [if_neg e, if_neg e]
        exact R2 q hqa
    -- the law's tree
    have lt4 : LawT K (offS (rl :: S) H4) tr T := hlt.same fun y o h => by
      obtain ⟨h1, h2⟩ := offS_some h
      rw [offS_ne (fun z => ?_)]
      · exact g4.at h2 fun z => h1 (hB.sub y z)
      · rcases List.mem_cons.mp z with z | z
        · rw [z, hrl] at h2
          exact nomatch h2
        · exact h1 z
    obtain ⟨nl, kd, pl, ns, ps, kvs, t1, t2, t3, t4, t5, t6, t7, t8, t9⟩ := (lt4.same offS_same).ex
    obtain ⟨uk, huk⟩ := ad_sub hq
    obtain ⟨bn, n1, n2⟩ := t4 _ uk huk
    refine ⟨_, rfl, tr, _, 0, _, rfl, rfl, SqL.of t1, rfl, _, rfl, nl, _, _, _, rfl, rfl, SqL.of t2, atI_nat n1, bn, _, 2, _, rfl, rfl, SqT.of n2, rfl, rfl, _, rfl, ?_⟩
    rcases hnn with ⟨hk2, rfl⟩ | ⟨rfl, rfl⟩
    · have hsu : sub u (p.take k) = some uk := by rw [← (sub_app T q0 u hu0 (p.take k)).1]; exact huk
      have hpk := d.fork hk2 hsu
      have e1 : (decide (V.int (uk.len : Nat) = V.int 0)) = false := decide_eq_false fun z => by injection z with z; omega
      rw [e1]
      refine iteF ?_
      have etk : p.take (k + 1) = p.take k ++ [p[k]] := List.take_succ_eq_append_getElem hk2
      have hnx : (q0 ++ p.take k) ++ [p[k]] ∈ ad T := by
        rw [List.append_assoc, ← etk]
        exact pre_ad (sub_ad hsp) (by rw [List.prefix_append_right_inj]; exact List.take_prefix ..)
      have hval := t6 _ _ hnx
      refine ⟨_, rfl, tr, _, 1, _, rfl, rfl, SqL.of t1, rfl, _, rfl, _, rfl, be, _, 2, _, rfl, rfl, same_sqt offS_same z24, rfl, (by show 2 ≤ sizeLine; decide), fun bt hbt => ⟨kd, _, rfl, .inr ⟨kvs, [Sum.inl ((T.idx (q0 ++ p.take k) : Nat) : Int), Sum.inl ((p[k] : Nat) : Int)], bt, .inl (same_new hbt _ _ t5), rfl, ?_, hval.symm⟩, ?_⟩⟩
      · rw [ee2]
        exact upd_same
      have s5 : Same H4 (upd H4 bt (.tup [.int (T.idx (q0 ++ p.take k) : Nat), .int e.2.2])) := same_new hbt
      refine ⟨hk2, some (.int (0 + (k : Nat))), some (.ref be), o7, _, _, ?_, g4.trans (GoS.of s5), B4.same s5, hB4l, R4, s5 _ _ r4, dps_same (GoS.of (S := rl :: S) s5).s hv4⟩
      rw [etk, ← List.append_assoc]
      rfl
    · rw [List.take_length] at huk hq
      rw [hsp] at huk
      obtain rfl := Option.some.inj huk
      have e1 : (decide (V.int (wl.len : Nat) = V.int 0)) = true := decide_eq_true (by rw [hwl2]; rfl)
      rw [e1]
      refine iteT ?_
      refine ⟨_, rfl, be, _, 2, _, rfl, rfl, same_sqt offS_same z24, rfl, _, rfl, tr, _, 2, _, rfl, rfl, SqL.of t1, rfl, pl, rfl, ⟨_, SqL.of t7⟩, fun Dl hDl => ?_⟩
      refine lc_list (K := K) (a := pl) (xs := ps) (fun j H' => Same H4 H' ∧ H' Dl = some (.lst (((lv T).take j).map fun q => V.int (T.idx q : Nat)))) ⟨same_new hDl, upd_same⟩ (fun j H' _ hh => SqL.of (hh.1 _ _ t7)) ?_ ?_
      · rintro j x H' hj ⟨sm, hD⟩
        have hjl := (List.getElem?_eq_some_iff.mp hj).1
        rw [t8] at hjl
        have hpj : (lv T)[j]? = some ((lv T)[j]'hjl) := List.getElem?_eq_getElem hjl
        generalize (lv T)[j]'hjl = q at hpj
        obtain ⟨bq, w1, w2⟩ := t9 j q hpj
        rw [hj] at w1
        obtain rfl := Option.some.inj w1
        have w3 := sm _ _ w2
        refine ⟨rfl, ?_⟩
        refine ⟨_, rfl, _, rfl, bq, _, rfl, .inl (SqL.of w3), _, _, rfl, rfl, bq, _, _, _, rfl, rfl, SqL.of w3, pth_lastV, ?_⟩
        refine ⟨_, hD, small1000 (by rw [List.length_map, List.length_take]; have := lf_le T; have : (lv T).length = T.lf := rfl; omega), same_mut sm hDl, ?_⟩
        rw [upd_same, List.take_add_one, hpj, List.map_append]
        rfl
      · rintro H5 ⟨s5, hD5⟩
        rw [t8, show T.lf = (lv T).length from rfl, List.take_length] at hD5
        have hnodup : ∀ (m : Nat) q, m < i → (lv T)[m]? = some q → T.idx q ≠ T.idx (q0 ++ p) := fun m q hm hq2 z => by
          have := idx_inj (lv_ad (List.mem_of_getElem? hq2)) (lv_ad hpl) z
          rw [this] at hq2
          have := lv_i hq2 hi
          omega
        rw [List.take_length]
        refine ⟨.inl ⟨rfl, _, SqL.of hD5⟩, _, rfl, Dl, _, _, i, V.int (T.idx (q0 ++ p) : Nat), rfl, rfl, SqL.of hD5, rfl, ?_, (by rw [List.getElem?_map, hi]; rfl), ?_, fun m z' hm hz' => ?_, ?_⟩
        · rw [List.all_eq_true]
          intro y hy
          obtain ⟨k', _, rfl⟩ := List.mem_map.mp hy
          rfl
        · exact beq_self_eq_true _
        · rw [List.getElem?_map] at hz'
          obtain ⟨q, hq2, rfl⟩ := Option.map_eq_some_iff.mp hz'
          show (((T.idx q : Nat) : Int) == ((T.idx (q0 ++ p) : Nat) : Int)) = false
          exact beq_false_of_ne fun z => hnodup m q hm hq2 (by omega)
        · refine ⟨_, rfl, rl, _, rfl, .inl ⟨SqL.of (s5 _ _ r4), fun tt htt => ⟨(by show 3 ≤ sizeLine; decide), fun v hv => ?_⟩⟩⟩
          have s6 : Same H5 (upd H5 tt (.tup (vs ++ [rv]))) := same_new htt
          have s7 : Same H4 (upd (upd H5 tt (.tup (vs ++ [rv]))) v (.tup [.int e.2.2, .int (i : Nat), .ref tt])) := s5.trans (s6.trans (same_new hv))
          have hl4 : (rs.take (p.length + 1)) = rs := List.take_of_length_le (by rw [d.len]; exact Nat.le_refl _)
          rw [hl4] at hv4
          rw [cutAK_full] at R4
          have httS : tt ∉ rl :: S := fun z => same_al s5 (B4.al tt z) htt
          have hvS : v ∉ rl :: S := fun z => same_al s5 (B4.al v z) (s6.free hv)
          have ntv : tt ≠ v := fun z => by
            rw [← z, upd_same] at hv
            exact nomatch hv
          have finB := (B4.same s7).shrink (S := S) (fun y hy => List.mem_cons_of_mem _ hy) hB.sub
          refine q2 _ p rs i _ d hi _ v (g4.trans (GoS.of s7)) finB hB4l R4 (g4.free (s5.free (s6.free hv))) ?_
          refine dp_same (offS_sub (S := S) (S' := rl :: S) fun y hy => List.mem_cons_of_mem _ hy) ?_
          have g6 : Same (offS (rl :: S) H4) (offS (rl :: S) (upd (upd H5 tt (.tup (vs ++ [rv]))) v (.tup [.int e.2.2, .int (i : Nat), .ref tt]))) := (GoS.of s7).s
          rw [← ee2]
          refine .tup (SqT.of (by rw [offS_ne hvS]; exact upd_same)) (.cons (.int _) (.cons (.int _) (.cons (.tup (SqT.of ?_) (dps_same g6 hv4)) .nil)))
          rw [offS_ne httS, upd_ne ntv]
          exact upd_same
  · rintro σ H' ⟨h, _⟩
    omega
end
end K26
set_option Elab.async false
set_option linter.all false
set_option maxRecDepth 100000
set_option maxHeartbeats 8000000
namespace K26
open PySem PySem.Spec PyProof.Rows L2 Dt
/-! ### _law_push, _law_row, _law_held -/
def pshB (p : Ad) (rs : List (List Int)) (c n : Int) (B : Bgs) : Bgs := fun q => if q <+: p then B q ++ [(rs.getD q.length [], c, itm p n q.length)] else B q
def pshBK (p : Ad) (rs : List (List Int)) (c n : Int) (B : Bgs) (k : Nat) : Bgs := fun q => if q <+: p ∧ q.length < k then B q ++ [(rs.getD q.length [], c, itm p n q.length)] else B q
theorem pshBK_zero (p : Ad) (rs : List (List Int)) (c n : Int) (B : Bgs) : pshBK p rs c n B 0 = B := by
  funext q
  unfold pshBK
  rw [if_neg (fun z => absurd z.2 (Nat.not_lt_zero _))]
theorem pshBK_full (p : Ad) (rs : List (List Int)) (c n : Int) (B : Bgs) : pshBK p rs c n B (p.length + 1) = pshB p rs c n B := by
  funext q
  unfold pshBK pshB
  by_cases h : q <+: p
  · rw [if_pos ⟨h, by have := h.length_le; omega⟩, if_pos h]
  · rw [if_neg (fun z => h z.1), if_neg h]
theorem pshBK_succ (p : Ad) (rs : List (List Int)) (c n : Int) (B : Bgs) (k : Nat) (hk : k ≤ p.length) : pshBK p rs c n B (k + 1) = fun q => if q = p.take k then B (p.take k) ++ [(rs.getD k [], c, itm p n k)] else pshBK p rs c n B k q := by
  funext q
  have hl : (p.take k).length = k := by rw [List.length_take]; omega
  by_cases e : q = p.take k
  · rw [if_pos e, e]
    unfold pshBK
    rw [if_pos ⟨List.take_prefix .., by omega⟩, hl]
  · rw [if_neg e]
    unfold pshBK
    by_cases h : q <+: p ∧ q.length < k
    · rw [if_pos h, if_pos ⟨h.1, by omega⟩]
    · rw [if_neg h, if_neg (fun z => ?_)]
      have : q.length = k := by
        have h1 : ¬ q.length < k := fun y => h ⟨z.1, y⟩
        omega
      refine e ?_
      rw [← this]
      exact (List.prefix_iff_eq_take.mp z.1)
theorem pshBK_at (p : Ad) (rs : List (List Int)) (c n : Int) (B : Bgs) (k : Nat) (hk : k ≤ p.length) : pshBK p rs c n B k (p.take k) = B (p.take k) := by
  have hl : (p.take k).length = k := by rw [List.length_take]; omega
  unfold pshBK
  rw [if_neg (fun z => by omega)]
theorem Rel.psh {T : Dt} {B : Bgs} {L : Lns} {now : Int} (h : Rel T B L now) (p : Ad) (rs : List (List Int)) (n : Int) : Rel T (pshB p rs now n B) (pshL p rs n L) (now + 1) := fun q hq => by
  unfold pshB pshL
  by_cases e : q <+: p
  · rw [if_pos e, if_pos e]
    exact (h q hq).put _ _
  · rw [if_neg e, if_neg e]
    exact (h q hq).later (by omega)
theorem pshB_len (p : Ad) (rs : List (List Int)) (c n : Int) (B : Bgs) (q : Ad) : (pshB p rs c n B q).length ≤ (B q).length + 1 := by
  unfold pshB
  split
  · rw [List.length_append]
    exact Nat.le_refl _
  · omega
theorem LawT.mem {K : PySem.W.Frag} {S S' : List Addr} {H H' : Hp} {tr : Addr} {T : Dt} (t : LawT K (offS S H) tr T) (g : Same (offS S H) (offS S' H')) : LawT K (offS S' H') tr T := t.same g
def spPsh (K : PySem.W.Frag) : Sp := fun vs H Q _ => ∃ (tr bg : Addr) (S Bs : List Addr) (T : Dt) (B : Bgs) (c n : Int) (i : Nat) (p : Ad) (z : V) (rs : List (List Int)), vs = [.ref tr, .ref bg, .int c, .int n, .int (i : Nat), z] ∧ LawT K (offS S H) tr T ∧ BgE K S H bg Bs T B ∧ (lv T)[i]? = some p ∧ T.ht < 20 ∧ Dp K (offS S H) z (.tuple (rs.map intsD)) ∧ rs.length = p.length + 1 ∧ (∀ q, (B q).length ≤ 100000) ∧
  ∀ H', GoS Bs H H' → BgE K S H' bg Bs T (pshB p rs c n B) → Q .non H'
def spRow (K : PySem.W.Frag) : Sp := fun vs H Q _ => ∃ (tr bg : Addr) (S Bs : List Addr) (T u : Dt) (B : Bgs) (L : Lns) (now : Int) (q0 : Ad), vs = [.ref tr, .ref bg, .int (T.idx q0 : Nat)] ∧ LawT K (offS S H) tr T ∧ BgE K S H bg Bs T B ∧ Rel T B L now ∧ sub T q0 = some u ∧ Con u (at_ q0 L) ∧ T.ht < 20 ∧ T.nodes ≤ 1000 ∧ (∀ q, (B q).length ≤ 1000) ∧
  ∀ H' v, Same H H' → H v = none → H' v = some (.tup ((ord u (at_ q0 L)).map V.int)) → Q (.ref v) H'
/-- the item that goes into a bag -/
def tItm (K : PySem.W.Frag) : TE := fun σ H Q => ∃ (tr bp : Addr) (T : Dt) (p : Ad) (n : Int) (k : Nat) (o1 o2 o4 o5 o8 : Option V), σ = [some (.ref tr), o1, o2, some (.int n), o4, o5, some (.ref bp), some (.int (k : Nat)), o8] ∧ LawT K H tr T ∧ H bp = some (.lst (pth T p (p.length + 1))) ∧ k ≤ p.length ∧ p ∈ ad T ∧ Q (.int (itm p n k)) H
theorem whI_take {p : Ad} {k : Nat} (h : k < p.length) (n : Int) : whI (p.take (k + 1)) = itm p n k := by
  unfold whI itm
  rw [List.take_succ_eq_append_getElem h, List.getLast?_concat, List.getElem?_eq_getElem h]
section
variable {P : Program} {w : World} {K : PySem.W.Frag} {mg : Str → Option Value} {base : Heap}
theorem ok_psh (D : DefAt K mg "_law_push" s_law_push ["tree", "bags", "came", "packet", "queue", "ranks"]) (T0 : Txt K mg) : CalX P w K mg base CX0 1 "_law_push" ["tree", "bags", "came", "packet", "queue", "ranks"] (spPsh K) := by
  refine D.ok sc_law_push (fun vs H Q E h => ?_) (fun f cdv A outer s H vs Q E hr h => ?_)
  · obtain ⟨tr, bg, S, Bs, T, B, c, n, i, p, z, rs, rfl, _⟩ := h
    rfl
  obtain ⟨tr, bg, S, Bs, T, B, c, n, i, p, z, rs, rfl, hlt, hB, hi, hht, hz, hrl, hBl, q⟩ := h
  refine ⟨_, (pss_cons (ps_set (i := 6) sc_law_push.nd rfl (.inl rfl) (pe_ix ix_list (pe_ix ix_list (pv 0) pe_int (fun _ _ => rfl)) (pv 4) (fun _ _ => rfl))) 
    (pss_one (ps_for PassesOwn.never rfl (pi_range1 (by rfl) T0.range (pa_cons (pe_callB call_len_seq (by rfl) T0.len PySem.boot_len (pa_cons (pv 6) pa_nil)) pa_nil)) (pg_name (i := 7) sc_law_push.nd rfl (Or.inl rfl)) 
      (pss_cons (ps_set (i := 8) sc_law_push.nd rfl (.inl rfl) (pe_conv (t' := tItm K) (pe_ifExp (pt_cmpR op_eq (pe_op op_add (pv 7) pe_int) (pe_callB call_len_seq (by rfl) T0.len PySem.boot_len (pa_cons (pv 6) pa_nil)) (nomark _)) (pv 3) (pe_ix ix_tup (pe_ix ix_list (pe_ix ix_list (pv 0) pe_int (fun _ _ => rfl)) (pe_ix ix_list (pv 6) (pe_op op_add (pv 7) pe_int) (fun _ _ => rfl)) (fun _ _ => rfl)) pe_int (fun _ _ => rfl))) (by
      rintro σ H Q ⟨tr, bp, T, p, n, k, o1, o2, o4, o5, o8, rfl, hlt, hbp, hk, hp, q⟩
      obtain ⟨nl, kd, pl, ns, ps, kvs, t1, t2, t3, t4, t5, t6, t7, t8, t9⟩ := hlt.ex
      refine ⟨_, rfl, _, _, rfl, rfl, _, rfl, bp, _, rfl, .inl (SqL.of hbp), rfl, _, rfl, ?_⟩
      rw [pth_len]
      by_cases hk2 : k = p.length
      · have e : (decide (V.int ((k : Nat) + 1) = V.int ((p.length + 1 : Nat) : Int))) = true := decide_eq_true (by rw [hk2]; rfl)
        rw [hk2, itm_end] at q
        refine (congrArg (fun b : Bool => (if b = true then _ else _ : Prop)) e).mpr ?_
        refine iteT ?_
        exact ⟨_, rfl, q⟩
      · have e : (decide (V.int ((k : Nat) + 1) = V.int ((p.length + 1 : Nat) : Int))) = false := decide_eq_false fun z => hk2 (by injection z with z; omega)
        have hk3 : k < p.length := by omega
        have hpk : (pth T p (p.length + 1))[k + 1]? = some (V.int (T.idx (p.take (k + 1)) : Nat)) := pth_at (by omega)
        have hq : p.take (k + 1) ∈ ad T := pre_ad hp (List.take_prefix ..)
        obtain ⟨u1, hu1⟩ := ad_sub hq
        obtain ⟨bn, n1, n2⟩ := t4 _ u1 hu1
        rw [← whI_take hk3] at q
        refine (congrArg (fun b : Bool => (if b = true then _ else _ : Prop)) e).mpr ?_
        refine iteF ?_
        exact ⟨_, rfl, tr, _, 0, _, rfl, rfl, SqL.of t1, rfl, _, rfl, _, rfl, _, _, rfl, rfl, bp, _, _, _, rfl, rfl, SqL.of hbp, atI_nat hpk, nl, _, _, _, rfl, rfl, SqL.of t2, atI_nat n1, bn, _, 1, _, rfl, rfl, SqT.of n2, rfl, q⟩))) 
      (pss_one (ps_expr (pe_bm PySem.F.plainAttrs_list PySem.F.slot_list_append PySem.F.type_list_append mt_append (pe_ix ix_list (pv 1) (pe_ix ix_list (pv 6) (pv 7) (fun _ _ => rfl)) (fun _ _ => rfl)) (pa_cons (pe_tup (pa_cons (pe_ix ix_tup (pv 5) (pv 7) (fun _ _ => rfl)) (pa_cons (pv 2) (pa_cons (pv 8) pa_nil)))) pa_nil)))))))), ?_⟩
  have hpl := List.mem_of_getElem? hi
  have hth := ht_path hpl
  generalize hz0 : z = z1 at hz
  cases hz with
  | @tup zb zs _ hzs hza =>
  subst hz0
  have hzl := dps_len hza
  rw [List.length_map] at hzl
  obtain ⟨nl, kd, pl, ns, ps, kvs, t1, t2, t3, t4, t5, t6, t7, t8, t9⟩ := hlt.ex
  obtain ⟨bp, p1, p2⟩ := t9 i p hi
  have hsl := sizeLine_eq
  refine ⟨_, rfl, tr, _, 2, _, rfl, rfl, SqL.of (offS_some t1).2, rfl, _, rfl, pl, _, _, _, rfl, rfl, SqL.of (offS_some t7).2, atI_nat p1, ?_⟩
  refine ⟨_, rfl, bp, _, rfl, .inl (SqL.of (offS_some p2).2), ?_⟩
  rw [pth_len]
  refine ⟨_, rfl, by omega, by omega, for_range (lo := 0) (n := p.length + 1) (fun k σ H' => ∃ o7 o8, σ = [some (.ref tr), some (.ref bg), some (.int c), some (.int n), some (.int (i : Nat)), some (.ref zb), some (.ref bp), o7, o8] ∧ GoS Bs H H' ∧ BgE K S H' bg Bs T (pshBK p rs c n B k))
    ⟨none, none, rfl, GoS.refl, by rw [pshBK_zero]; exact hB⟩ ?_ ?_⟩
  · rintro k σ H' hk ⟨o7, o8, rfl, g, B1⟩
    have gs : Same (offS S H) (offS S H') := (g.wide B1.sub).s
    have e0 : (0 : Int) + (k : Nat) = (k : Nat) := Int.zero_add _
    rw [e0]
    have hq : p.take k ∈ ad T := pre_ad (lv_ad hpl) (List.take_prefix ..)
    obtain ⟨b, xs, k1, k2, k3⟩ := B1.li _ hq
    rw [pshBK_at p rs c n B k (by omega)] at k3
    have hxl := dps_len k3
    rw [List.length_map] at hxl
    have hbl := hBl (p.take k)
    have hpk : (pth T p (p.length + 1))[k]? = some (V.int (T.idx (p.take k) : Nat)) := pth_at hk
    have hzk : zs[k]? = some (zs[k]'(by rw [hzl, hrl]; exact hk)) := List.getElem?_eq_getElem _
    generalize zs[k]'(by rw [hzl, hrl]; exact hk) = y1 at hzk
    obtain ⟨r, hr1, hr2⟩ := dp_ranks hza hzk
    have hp' := (offS_some (gs _ _ p2)).2
    refine ⟨tr, bp, T, p, n, k, _, _, _, _, _, rfl, (hlt.mem gs).same offS_same, hp', by omega, lv_ad hpl, ?_⟩
    have hat : atI (Bs.map V.ref) (T.idx (p.take k) : Nat) = some (.ref b) := atI_nat (by rw [List.getElem?_map, k1]; rfl)
    refine ⟨_, rfl, _, rfl, _, rfl, bp, _, _, _, rfl, rfl, SqL.of hp', atI_nat hpk, bg, _, _, _, rfl, rfl, SqL.of (offS_some B1.ln).2, hat, ?_⟩
    refine ⟨.inl ⟨rfl, _, SqL.of k2⟩, ?_⟩
    refine ⟨_, rfl, _, rfl, zb, _, _, _, rfl, rfl, same_sqt offS_same (same_sqt gs hzs), atI_nat hzk, _, rfl, _, rfl, (by show 3 ≤ sizeLine; decide), fun t ht => ?_⟩
    have htS : t ∉ S := fun z => B1.al t z ht
    have s4 : Same H' (upd H' t (.tup [y1, .int c, .int (itm p n k)])) := same_new ht
    have t4' : (upd H' t (.tup [y1, .int c, .int (itm p n k)])) t = some (.tup [y1, .int c, .int (itm p n k)]) := upd_same
    have B4 := B1.same s4
    have g4 := g.trans (GoS.of s4)
    have gg : Same (offS S H') (offS S (upd H' t (.tup [y1, .int c, .int (itm p n k)]))) := (GoS.of s4).s
    have k24 := s4 _ _ k2
    revert t4' B4 g4 gg k24
    generalize upd H' t (.tup [y1, .int c, .int (itm p n k)]) = H4
    intro t4' B4 g4 gg k24
    refine ⟨b, xs, .ref t, rfl, rfl, k24, by omega, ?_⟩
    have hent : Dp K (offS S H4) (.ref t) (trD (r, c, itm p n k)) := .tup (SqT.of (by rw [offS_ne htS]; exact t4')) (.cons (dp_same gg (dp_same gs hr2)) (.cons (.int _) (.cons (.int _) .nil)))
    have hnew : DpAll K (offS S H4) (xs ++ [.ref t]) ((B (p.take k) ++ [(r, c, itm p n k)]).map trD) := by
      rw [List.map_append]
      exact dps_snoc' (dps_same gg k3) hent
    refine ⟨_, _, rfl, g4.upd (List.mem_of_getElem? k1), ?_⟩
    have fin := B4.setB (q := p.take k) hq k1 hnew
    rw [pshBK_succ p rs c n B k (by omega)]
    have er : rs.getD k [] = r := by
      rw [List.getD_eq_getElem?_getD, hr1]
      rfl
    rw [er]
    exact fin
  · rintro σ H' ⟨o7, o8, rfl, g, B1⟩
    rw [pshBK_full] at B1
    exact q H' g B1
end
end K26
set_option Elab.async false
set_option linter.all false
set_option maxRecDepth 100000
set_option maxHeartbeats 8000000
namespace K26
open PySem PySem.Spec PyProof.Rows L2 Dt
/-! ### a copy of the bags; the row -/
/-- what is said when copies of all bags are made -/
theorem bags_copy {K : PySem.W.Frag} {S : List Addr} {H H1 H2 : Hp} {bg Dl : Addr} {Bs Ms : List Addr} {T : Dt} {B : Bgs} (hB : BgE K S H bg Bs T B) (s1 : Same H H2) (hDl : H Dl = none) (hD : H2 Dl = some (.lst (Ms.map V.ref))) (hMl : Ms.length = Bs.length)
    (hM : ∀ (i : Nat) (m : Addr), Ms[i]? = some m → ∃ l xs, Bs[i]? = some l ∧ H l = some (.lst xs) ∧ H2 m = some (.lst xs) ∧ H m = none) (hnd : (Dl :: Ms).Nodup) : BgE K (Ms ++ S) H2 Dl Ms T B := by
  obtain ⟨nd1, nd2⟩ := List.nodup_cons.mp hnd
  have hMn : ∀ m ∈ Ms, H m = none := fun m hm => by
    obtain ⟨i, hi⟩ := List.mem_iff_getElem?.mp hm
    obtain ⟨_, _, _, _, _, z⟩ := hM i m hi
    exact z
  have gH : Same (offS S H) (offS (Ms ++ S) H2) := offS_grow s1 hMn
  refine ⟨fun y hy => List.mem_append_left _ hy, fun y hy => ?_, nd2, ?_, by rw [hMl, hB.len], fun q hq => ?_⟩
  · rcases List.mem_append.mp hy with hy | hy
    · obtain ⟨i, hi⟩ := List.mem_iff_getElem?.mp hy
      obtain ⟨_, _, _, _, z, _⟩ := hM i y hi
      rw [z]
      exact fun z => nomatch z
    · exact same_al s1 (hB.al y hy)
  · rw [offS_ne (fun z => ?_)]
    · exact hD
    · rcases List.mem_append.mp z with z | z
      · exact nd1 z
      · exact hB.al Dl z hDl
  · obtain ⟨l, xs, z1, z2, z3⟩ := hB.li q hq
    have hil := (List.getElem?_eq_some_iff.mp z1).1
    have hmi : Ms[T.idx q]? = some (Ms[T.idx q]'(by rw [hMl]; exact hil)) := List.getElem?_eq_getElem _
    obtain ⟨l', xs', y1, y2, y3, _⟩ := hM _ _ hmi
    rw [z1] at y1
    obtain rfl := Option.some.inj y1
    rw [z2] at y2
    injection y2 with y2
    injection y2 with y2
    subst y2
    exact ⟨_, xs, hmi, y3, dps_same gH z3⟩
theorem con_cutA {T u : Dt} {q0 p : Ad} {L : Lns} {n : Int} {rs : List (List Int)} (con : Con u (at_ q0 L)) (d : Dep u (at_ q0 L) n p rs) : Con u (at_ q0 (cutA q0 p L)) := by
  rw [at_cutA]
  exact dep_con con d
section
variable {P : Program} {w : World} {K : PySem.W.Frag} {mg : Str → Option Value} {base : Heap}
theorem ok_row (D : DefAt K mg "_law_row" s_law_row ["tree", "bags", "start"]) (T0 : Txt K mg) (GTake : CalX P w K mg base CX0 1 "_law_take" ["tree", "bags", "start"] (spTake K)) : CalX P w K mg base CX0 2 "_law_row" ["tree", "bags", "start"] (spRow K) := by
  refine D.ok sc_law_row (fun vs H Q E h => ?_) (fun f cdv A outer s H vs Q E hr h => ?_)
  · obtain ⟨tr, bg, S, Bs, T, u, B, L, now, q0, rfl, _⟩ := h
    rfl
  obtain ⟨tr, bg, S, Bs, T, u, B, L, now, q0, rfl, hlt, hB, hR, hu0, con, hht, hno, hBl, q⟩ := h
  refine ⟨_, (pss_cons (ps_set (i := 4) sc_law_row.nd rfl (.inr rfl) (pe_lc (own := [("bag", 3)]) (g := gName 3) (tt := tYes) (by rfl) sc_law_row.nd (pi_list (pv 1)) (blkOk_by (own := [("bag", 3)]) (N := N_law_row) (sc := defScope s_law_row) (by decide +kernel)) (fun _ _ _ _ _ => pg_name (i := 3) sc_law_row.nd rfl (Or.inl rfl)) (fun _ _ _ _ _ => pts_nil) (fun _ _ _ _ _ => by exact (pe_callTy (call_list_ofK (K := K) (by exact rfl)) (by rfl) T0.list (by decide +kernel) (pa_cons (pv 3) pa_nil))))) 
    (pss_one (ps_ret (pe_callTy call_tuple_of (by rfl) T0.tuple PyProof.Rows.boot_tuple (pa_cons (pe_lc (own := [("k", 5)]) (g := gName 5) (tt := tYes) (by rfl) sc_law_row.nd (pi_range1 (by rfl) T0.range (pa_cons (pe_callB call_len_seq (by rfl) T0.len PySem.boot_len (pa_cons (pe_ix ix_list (pv 1) (pv 2) (fun _ _ => rfl)) pa_nil)) pa_nil)) (blkOk_by (own := [("k", 5)]) (N := N_law_row) (sc := defScope s_law_row) (by decide +kernel)) (fun _ _ _ _ _ => pg_name (i := 5) sc_law_row.nd rfl (Or.inl rfl)) (fun _ _ _ _ _ => pts_nil) (fun _ _ _ _ _ => by exact (pe_ix (ix_tupK (K := K) (by exact rfl)) (pe_c0 GTake hr (by decide) rfl (pa_cons (pv 0) (pa_cons (pv 4) (pa_cons (pv 2) pa_nil)))) pe_int (fun _ _ => rfl)))) pa_nil))))), ?_⟩
  have hq0 := sub_ad hu0
  have hsl := sizeLine_eq
  have hln := (offS_some hB.ln).2
  refine ⟨_, rfl, bg, rfl, ⟨_, SqL.of hln⟩, fun Dl hDl => ?_⟩
  refine lc_list (K := K) (a := bg) (xs := Bs.map V.ref) (fun j H' => Same H H' ∧ ∃ Ms : List Addr, H' Dl = some (.lst (Ms.map V.ref)) ∧ Ms.length = j ∧ (∀ (i : Nat) (m : Addr), Ms[i]? = some m → ∃ l xs, Bs[i]? = some l ∧ H l = some (.lst xs) ∧ H' m = some (.lst xs) ∧ H m = none) ∧ (Dl :: Ms).Nodup) ⟨same_new hDl, [], upd_same, rfl, (fun i m z => by simp at z), by simp⟩ (fun j H' _ hh => SqL.of (hh.1 _ _ hln)) ?_ ?_
  · rintro j x H' hj ⟨sm, Ms, hD, hl, hM, hnd⟩
    rw [List.getElem?_map] at hj
    obtain ⟨l, hlj, rfl⟩ := Option.map_eq_some_iff.mp hj
    have hjl := (List.getElem?_eq_some_iff.mp hlj).1
    have hjl2 := hjl
    rw [hB.len, ← ad_len] at hjl
    obtain ⟨l', xs, g1, g2, g3⟩ := hB.li _ (List.getElem_mem hjl)
    rw [idx_of (List.getElem?_eq_getElem hjl), hlj] at g1
    obtain rfl := Option.some.inj g1
    refine ⟨rfl, _, rfl, l, _, rfl, .inl (SqL.of (sm _ _ g2)), fun p hp => ?_⟩
    have npD : p ≠ Dl := fun e => by
      rw [e, hD] at hp
      exact nomatch hp
    obtain ⟨nd1, nd2⟩ := List.nodup_cons.mp hnd
    have npM : p ∉ Ms := fun z => by
      obtain ⟨i, hi⟩ := List.mem_iff_getElem?.mp z
      obtain ⟨_, xs', _, _, z2, _⟩ := hM i p hi
      rw [z2] at hp
      exact nomatch hp
    have hTn := ad_len T
    refine ⟨Ms.map V.ref, (same_new hp) _ _ hD, small1000 (by rw [List.length_map]; omega), same_mut (sm.trans (same_new hp)) hDl, Ms ++ [p], by rw [upd_same, List.map_append]; rfl, by rw [List.length_append]; show Ms.length + 1 = j + 1; omega, fun i m hm => ?_, ?_⟩
    · by_cases cc : i < Ms.length
      · rw [List.getElem?_append_left cc] at hm
        obtain ⟨l2, xs2, z1, z2, z3, z4⟩ := hM i m hm
        refine ⟨l2, xs2, z1, z2, ?_, z4⟩
        rw [upd_ne (fun e => nd1 (by rw [← e]; exact List.mem_of_getElem? hm))]
        exact (same_new hp) _ _ z3
      · have hi := (List.getElem?_eq_some_iff.mp hm).1
        rw [List.length_append] at hi
        have hi2 : i < Ms.length + 1 := hi
        obtain rfl : i = Ms.length := by omega
        rw [List.getElem?_append_right (Nat.le_refl _), Nat.sub_self] at hm
        obtain rfl := Option.some.inj hm
        refine ⟨l, xs, by rw [hl]; exact hlj, g2, ?_, sm.free hp⟩
        rw [upd_ne npD]
        exact upd_same
    · refine List.nodup_cons.mpr ⟨fun z => ?_, List.nodup_append.mpr ⟨nd2, by simp, fun x hx y hy e => ?_⟩⟩
      · rcases List.mem_append.mp z with z | z
        · exact nd1 z
        · exact npD (List.mem_singleton.mp z).symm
      · rw [List.mem_singleton.mp hy] at e
        exact npM (e ▸ hx)
  rintro H2 ⟨s2, Ms, hD, hMl, hM, hnd⟩
  rw [List.length_map] at hMl
  have C2 := bags_copy (H1 := H2) hB s2 hDl hD hMl hM hnd
  have hlt2 : LawT K (offS (Ms ++ S) H2) tr T := hlt.mem (offS_grow s2 fun m hm => by
    obtain ⟨i, hi⟩ := List.mem_iff_getElem?.mp hm
    obtain ⟨_, _, _, _, _, z⟩ := hM i m hi
    exact z)
  obtain ⟨b0, xs0, k1, k2, k3⟩ := hB.li q0 hq0
  have hx0 := dps_len k3
  rw [List.length_map] at hx0
  have hLl := (hR q0 hq0).len
  have hBq := hBl q0
  have hol : (ord u (at_ q0 L)).length = xs0.length := by rw [ord_length, at_nil, hLl, hx0]
  have hat : atI (Bs.map V.ref) (T.idx q0 : Nat) = some (.ref b0) := atI_nat (by rw [List.getElem?_map, k1]; rfl)
  refine ⟨_, rfl, _, rfl, bg, _, _, _, rfl, rfl, SqL.of (s2 _ _ hln), hat, b0, _, rfl, .inl (SqL.of (s2 _ _ k2)), ?_⟩
  refine ⟨_, rfl, by omega, by omega, fun D2 hD2 => ?_⟩
  have C3 := C2.with (v := .lst []) hD2
  have hlt3 : LawT K (offS (D2 :: (Ms ++ S)) (upd H2 D2 (.lst []))) tr T := hlt2.mem (offS_grow (N := [D2]) (same_new hD2) fun y hy => by rw [List.mem_singleton.mp hy]; exact hD2)
  have hD2M : D2 ∉ Ms := fun z => C2.al D2 (List.mem_append_left _ z) hD2
  refine lc_range (lo := 0) (n := xs0.length) (fun k H' => GoS Ms H2 H' ∧ H' D2 = some (.lst (((ord u (at_ q0 L)).take k).map V.int)) ∧ ∃ (Bk : Bgs) (Lk : Lns), BgE K (D2 :: (Ms ++ S)) H' Dl Ms T Bk ∧ Rel T Bk Lk now ∧ Con u (at_ q0 Lk) ∧ (∀ q, (Bk q).length ≤ (B q).length) ∧ ord u (at_ q0 Lk) = (ord u (at_ q0 L)).drop k)
    ⟨GoS.refl.new hD2, upd_same, B, L, C3, hR, con, fun q => Nat.le_refl _, rfl⟩ ?_ ?_
  · rintro k H3 hk ⟨g3, hD3, Bk, Lk, B3, R3, con3, hbl3, hord⟩
    have gS : Same (offS (D2 :: (Ms ++ S)) (upd H2 D2 (.lst []))) (offS (D2 :: (Ms ++ S)) H3) := fun y o h => by
      obtain ⟨h1, h2⟩ := offS_some h
      rw [offS_ne h1]
      rw [upd_ne (fun z => h1 (by rw [z]; exact List.mem_cons_self ..))] at h2
      exact g3.at h2 fun z => h1 (List.mem_cons_of_mem _ (List.mem_append_left _ z))
    have hne : Lk q0 ≠ [] := fun z => by
      have e1 := ord_length u (at_ q0 Lk)
      rw [at_nil, z, hord, List.length_drop, hol] at e1
      simp at e1
      omega
    refine ⟨rfl, ?_⟩
    refine ⟨_, rfl, _, rfl, _, rfl, tr, Dl, D2 :: (Ms ++ S), Ms, T, u, Bk, Lk, now, q0, rfl, hlt3.mem gS, B3, R3, hu0, con3, hht, hno, (fun q => by have := hbl3 q; have := hBl q; omega), (fun z => absurd z hne), fun n p rs i B' d hi H4 v g4 B4 hbl4 R4 hv4 hdp => ?_⟩
    have hdo := dep_ord p u (at_ q0 Lk) n rs con3 d
    have hov : v ∉ D2 :: (Ms ++ S) := fun z => B3.al v z hv4
    cases hdp with
    | @tup _ ys _ hs ha =>
    cases ha with
    | cons a1 ha =>
    cases a1
    refine ⟨v, _, 0, _, rfl, rfl, same_sqt offS_same hs, (show atI (V.int n :: _) ((0 : Nat) : Int) = some (V.int n) from atI_nat rfl), ?_⟩
    have hD4 : H4 D2 = some (.lst (((ord u (at_ q0 L)).take k).map V.int)) := g4.at hD3 hD2M
    have hnk : (ord u (at_ q0 L))[k]? = some n := by
      rw [hdo] at hord
      have := congrArg (fun l => l[0]?) hord
      rw [List.getElem?_drop, Nat.add_zero] at this
      exact this.symm
    refine ⟨_, hD4, small1000 (by rw [List.length_map, List.length_take]; omega), ?_, ?_, B', cutA q0 p Lk, ?_, R4, con_cutA (T := T) con3 d, fun q => Nat.le_trans (hbl4 q) (hbl3 q), ?_⟩
    · exact (g3.trans g4).mutNew hD2
    · rw [upd_same, List.take_add_one, hnk, List.map_append]
      rfl
    · exact B4.mut (List.mem_cons_self ..) hD2M
    · rw [at_cutA]
      rw [hdo] at hord
      have := congrArg List.tail hord
      rw [List.tail_cons, List.tail_drop] at this
      exact this
  · rintro H3 ⟨g3, hD3, _⟩
    rw [← hol, List.take_length] at hD3
    refine ⟨D2, _, rfl, .inl ⟨SqL.of hD3, fun v hv => ?_⟩⟩
    have sF : Same H H3 := fun y o h => g3.at (s2 _ _ h) fun z => by
      obtain ⟨i, hi⟩ := List.mem_iff_getElem?.mp z
      obtain ⟨_, _, _, _, _, z'⟩ := hM i y hi
      rw [h] at z'
      exact nomatch z'
    exact q _ v (sF.trans (same_new hv)) (sF.free hv) upd_same
end
end K26
set_option Elab.async false
set_option linter.all false
set_option maxRecDepth 100000
set_option maxHeartbeats 8000000
namespace K26
open PySem PySem.Spec PyProof.Rows L2 Dt
/-! ### _law_held -/
/-- the packets that lie beneath a node -/
def heldL (T : Dt) (B : Bgs) (q : Ad) (l : List Ad) : List Int := (l.filter fun p => decide (q <+: p)).flatMap fun p => (B p).map fun e => e.2.2
def spHeld (K : PySem.W.Frag) : Sp := fun vs H Q _ => ∃ (tr bg : Addr) (S Bs : List Addr) (T : Dt) (B : Bgs) (q0 : Ad), vs = [.ref tr, .ref bg, .int (T.idx q0 : Nat)] ∧ LawT K (offS S H) tr T ∧ BgE K S H bg Bs T B ∧ q0 ∈ ad T ∧ T.ht < 20 ∧ T.nodes ≤ 100 ∧ (∀ q, (B q).length ≤ 1000) ∧
  ∀ H' v, Same H H' → H v = none → H' v = some (.lst ((heldL T B q0 (lv T)).map V.int)) → Q (.ref v) H'
theorem heldL_mem {T : Dt} {B : Bgs} {q : Ad} {n : Int} : n ∈ heldL T B q (lv T) ↔ ∃ p, p ∈ lv T ∧ q <+: p ∧ ∃ e ∈ B p, e.2.2 = n := by
  unfold heldL
  rw [List.mem_flatMap]
  constructor
  · rintro ⟨p, h1, h2⟩
    obtain ⟨h3, h4⟩ := List.mem_filter.mp h1
    obtain ⟨e, h5, h6⟩ := List.mem_map.mp h2
    exact ⟨p, h3, of_decide_eq_true h4, e, h5, h6⟩
  · rintro ⟨p, h1, h2, e, h3, h4⟩
    exact ⟨p, List.mem_filter.mpr ⟨h1, decide_eq_true h2⟩, List.mem_map.mpr ⟨e, h3, h4⟩⟩
theorem in_path {T : Dt} {q p : Ad} (hq : q ∈ ad T) (hp : p ∈ lv T) : (inV (.int (T.idx q : Nat)) (pth T p (p.length + 1))) = decide (q <+: p) := by
  unfold inV
  by_cases h : q <+: p
  · rw [decide_eq_true h, List.any_eq_true]
    have hle := h.length_le
    refine ⟨V.int (T.idx q : Nat), ?_, beq_self_eq_true _⟩
    have := pth_at (T := T) (p := p) (n := p.length + 1) (k := q.length) (by omega)
    rw [← List.prefix_iff_eq_take.mp h] at this
    exact List.mem_of_getElem? this
  · rw [decide_eq_false h, List.any_eq_false]
    intro y hy z
    unfold pth at hy
    obtain ⟨k, hk, rfl⟩ := List.mem_map.mp hy
    have z2 : T.idx (p.take k) = T.idx q := by
      have : ((T.idx (p.take k) : Nat) : Int) = (T.idx q : Nat) := by simpa [eqV] using z
      omega
    have := idx_inj (pre_ad (lv_ad hp) (List.take_prefix ..)) hq z2
    exact h (by rw [← this]; exact List.take_prefix ..)
section
variable {P : Program} {w : World} {K : PySem.W.Frag} {mg : Str → Option Value} {base : Heap}
theorem ok_held (D : DefAt K mg "_law_held" s_law_held ["tree", "bags", "node"]) (T0 : Txt K mg) : CalX P w K mg base CX0 1 "_law_held" ["tree", "bags", "node"] (spHeld K) := by
  refine D.ok sc_law_held (fun vs H Q E h => ?_) (fun f cdv A outer s H vs Q E hr h => ?_)
  · obtain ⟨tr, bg, S, Bs, T, B, q0, rfl, _⟩ := h
    rfl
  obtain ⟨tr, bg, S, Bs, T, B, q0, rfl, hlt, hB, hq0, hht, hno, hBl, q⟩ := h
  refine ⟨_, (pss_cons (ps_set (i := 3) sc_law_held.nd rfl (.inl rfl) (pe_lst pa_nil)) 
    (pss_cons (ps_for PassesOwn.never rfl (pi_list (pe_ix ix_list (pv 0) pe_int (fun _ _ => rfl))) (pg_name (i := 4) sc_law_held.nd rfl (Or.inl rfl)) 
      (pss_one (ps_if (pt_cmpR op_in_seq (pv 2) (pv 4) (by rfl)) 
        (pss_one (ps_expr (pe_bm PySem.F.plainAttrs_list PySem.F.slot_list_extend PySem.F.type_list_extend mt_extend (pv 3) (pa_cons (pe_lc (own := [("entry", 5)]) (g := gName 5) (tt := tYes) (by rfl) sc_law_held.nd (pi_list (pe_ix ix_list (pv 1) (pe_ix ix_list (pv 4) (pe_op op_sub (pe_callB call_len_seq (by rfl) T0.len PySem.boot_len (pa_cons (pv 4) pa_nil)) pe_int) (fun _ _ => rfl)) (fun _ _ => rfl))) (blkOk_by (own := [("entry", 5)]) (N := N_law_held) (sc := defScope s_law_held) (by decide +kernel)) (fun _ _ _ _ _ => pg_name (i := 5) sc_law_held.nd rfl (Or.inl rfl)) (fun _ _ _ _ _ => pts_nil) (fun _ _ _ _ _ => by exact (pe_ix (ix_tupK (K := K) (by exact rfl)) (pv 5) pe_int (fun _ _ => rfl)))) pa_nil)))) pss_nil))) 
    (pss_one (ps_ret (pv 3))))), ?_⟩
  obtain ⟨nl, kd, pl, ns, ps, kvs, t1, t2, t3, t4, t5, t6, t7, t8, t9⟩ := (hlt.same offS_same).ex
  have hln := (offS_some hB.ln).2
  have hsl := sizeLine_eq
  refine ⟨(by show 0 ≤ sizeLine; decide), fun R hR => ?_⟩
  have s0 : Same H (upd H R (.lst [])) := same_new hR
  refine ⟨_, rfl, tr, _, 2, _, rfl, rfl, SqL.of (s0 _ _ t1), rfl, pl, rfl, ⟨_, SqL.of (s0 _ _ t7)⟩, ?_⟩
  refine for_list (K := K) (a := pl) (xs := ps) (fun j σ H' => ∃ o4 o5, σ = [some (.ref tr), some (.ref bg), some (.int (T.idx q0 : Nat)), some (.ref R), o4, o5] ∧ Same H H' ∧ H' R = some (.lst ((heldL T B q0 ((lv T).take j)).map V.int)) ∧ (heldL T B q0 ((lv T).take j)).length ≤ 1000 * j)
    ⟨none, none, rfl, s0, upd_same, Nat.zero_le _⟩ (fun j σ H' _ ⟨_, _, _, sm, _⟩ => SqL.of (sm _ _ t7)) ?_ ?_
  · rintro j x σ H' hj ⟨o4, o5, rfl, sm, hRj, hlj⟩
    have hjl := (List.getElem?_eq_some_iff.mp hj).1
    rw [t8] at hjl
    have hpj : (lv T)[j]? = some ((lv T)[j]'hjl) := List.getElem?_eq_getElem hjl
    generalize (lv T)[j]'hjl = p at hpj
    obtain ⟨bp, w1, w2⟩ := t9 j p hpj
    rw [hj] at w1
    obtain rfl := Option.some.inj w1
    have w3 := sm _ _ w2
    have hpv := List.mem_of_getElem? hpj
    have hjn : j < 100 := by have := lf_le T; omega
    refine ⟨_, rfl, _, rfl, bp, _, rfl, .inl (SqL.of w3), rfl, ?_, _, rfl, ?_⟩
    · rw [List.all_eq_true]
      intro y hy
      unfold pth at hy
      obtain ⟨k, _, rfl⟩ := List.mem_map.mp hy
      rfl
    · show (if (inV (V.int (T.idx q0 : Nat)) (pth T p (p.length + 1))) = true then _ else _ : Prop)
      rw [in_path hq0 hpv]
      have etk : (lv T).take (j + 1) = (lv T).take j ++ [p] := by rw [List.take_add_one, hpj]; rfl
      by_cases hc : q0 <+: p
      · rw [decide_eq_true hc]
        refine iteT ?_
        have eh : heldL T B q0 ((lv T).take (j + 1)) = heldL T B q0 ((lv T).take j) ++ (B p).map fun e => e.2.2 := by
          unfold heldL
          rw [etk, List.filter_append, List.filter_cons_of_pos (by exact decide_eq_true hc), List.flatMap_append]
          simp
        obtain ⟨b, xs, k1, k2, k3⟩ := hB.li _ (lv_ad hpv)
        have hxl := dps_len k3
        rw [List.length_map] at hxl
        have hBp := hBl p
        refine ⟨_, rfl, .inl ⟨rfl, _, SqL.of hRj⟩, ?_⟩
        refine ⟨_, rfl, _, rfl, _, rfl, bp, _, rfl, .inl (SqL.of w3), _, _, rfl, rfl, bp, _, _, _, rfl, rfl, SqL.of w3, pth_lastV, bg, _, _, _, rfl, rfl, SqL.of (sm _ _ hln), (atI_nat (by rw [List.getElem?_map, k1]; rfl)), ?_⟩
        refine ⟨b, rfl, ⟨_, SqL.of (sm _ _ k2)⟩, fun Dl hDl => ?_⟩
        refine lc_list (K := K) (a := b) (xs := xs) (fun k H2 => Same H' H2 ∧ H2 Dl = some (.lst (((B p).take k).map fun e => V.int e.2.2))) ⟨same_new hDl, upd_same⟩ (fun k H2 _ hh => SqL.of (hh.1 _ _ (sm _ _ k2))) ?_ ?_
        · rintro k x H2 hk ⟨sm2, hD2⟩
          obtain ⟨e, be, rv, z1, rfl, z2, z3⟩ := dps_tr k3 hk
          refine ⟨rfl, ?_⟩
          refine ⟨_, rfl, be, _, _, _, rfl, rfl, same_sqt (sm.trans sm2) (same_sqt offS_same z2), (show atI [rv, V.int e.2.1, V.int e.2.2] ((2 : Nat) : Int) = some (V.int e.2.2) from atI_nat rfl), ?_⟩
          have hkl := (List.getElem?_eq_some_iff.mp hk).1
          refine ⟨_, hD2, small1000 (by rw [List.length_map, List.length_take]; omega), same_mut sm2 hDl, ?_⟩
          rw [upd_same, List.take_add_one, z1, List.map_append]
          rfl
        · rintro H2 ⟨sm2, hD2⟩
          rw [hxl, List.take_length] at hD2
          refine ⟨R, Dl, _, _, rfl, rfl, sm2 _ _ hRj, hD2, by rw [List.length_map, List.length_map]; omega, ?_⟩
          refine ⟨_, _, rfl, same_mut (sm.trans sm2) hR, ?_, ?_⟩
          · rw [upd_same, eh, List.map_append, List.map_map]
            rfl
          · rw [eh, List.length_append, List.length_map]
            omega
      · rw [decide_eq_false hc]
        refine iteF ?_
        have eh : heldL T B q0 ((lv T).take (j + 1)) = heldL T B q0 ((lv T).take j) := by
          unfold heldL
          rw [etk, List.filter_append, List.filter_cons_of_neg (by simpa using hc), List.filter_nil, List.append_nil]
        refine ⟨_, _, rfl, sm, by rw [eh]; exact hRj, by rw [eh]; omega⟩
  · rintro σ H' ⟨o4, o5, rfl, sm, hRj, hlj⟩
    rw [t8, show T.lf = (lv T).length from rfl, List.take_length] at hRj
    exact ⟨_, rfl, q H' R sm hR hRj⟩
end
end K26
set_option Elab.async false
set_option linter.all false
set_option maxRecDepth 100000
set_option maxHeartbeats 8000000
namespace K26
open PySem PySem.Spec PyProof.Rows L2 Dt
/-! ### _law_rank -/
def RankI (ns : List Int) : Prop := ns.length ≤ 8 ∧ ∀ i ∈ ns, -rankB < i ∧ i < rankB
theorem rank_intsD {ns : List Int} (h : RankI ns) : rankOf (intsD ns) = true := by
  show (decide ((ns.map PyData.int).length ≤ 8) && (ns.map PyData.int).all partB) = true
  rw [Bool.and_eq_true]
  refine ⟨decide_eq_true (by rw [List.length_map]; exact h.1), List.all_eq_true.mpr fun d hd => ?_⟩
  obtain ⟨i, hi, rfl⟩ := List.mem_map.mp hd
  have := h.2 i hi
  show (decide (-rankB < i) && decide (i < rankB)) = true
  rw [Bool.and_eq_true]
  exact ⟨decide_eq_true this.1, decide_eq_true this.2⟩
def spMkRank (K : PySem.W.Frag) : Sp := fun vs H Q _ => ∃ (tp ca : Addr) (m : Nat), vs = [.ref tp, .int (m : Nat)] ∧ Tape K H tp ca ∧ ∀ H' a ns, Rn K tp ca H H' → RankI ns → H a = none → H' a = some (.tup (ns.map V.int)) → Q (.ref a) H'
def tMan (K : PySem.W.Frag) : TS := fun D σ H => ∃ (tp ca : Addr) (m : Nat) (o2 o3 o4 : Option V), σ = [some (.ref tp), some (.int (m : Nat)), o2, o3, o4] ∧ Tape K H tp ca ∧ ∀ H' (m' : Nat), Rn K tp ca H H' → D.nx [some (.ref tp), some (.int (m' : Nat)), o2, o3, o4] H'
section
variable {P : Program} {w : World} {K : PySem.W.Frag} {mg : Str → Option Value} {base : Heap}
theorem ok_mkrank (D : DefAt K mg "_law_rank" s_law_rank ["tape", "manner"]) (T0 : Txt K mg) (GDraw : CalX P w K mg base CX0 1 "_law_draw" ["tape", "many"] (spDraw K)) : CalX P w K mg base CX0 2 "_law_rank" ["tape", "manner"] (spMkRank K) := by
  refine D.ok sc_law_rank (fun vs H Q E h => ?_) (fun f cdv A outer s H vs Q E hr h => ?_)
  · obtain ⟨tp, ca, m, rfl, _⟩ := h
    rfl
  obtain ⟨tp, ca, m, rfl, hT, q⟩ := h
  refine ⟨_, (pss_cons (ps_conv (t' := tMan K) (ps_if (pt_cmpR op_eq (pv 1) pe_int (nomark _)) 
      (pss_one (ps_set (i := 1) sc_law_rank.nd rfl (.inl rfl) (pe_c0 GDraw hr (by decide) rfl (pa_cons (pv 0) (pa_cons pe_int pa_nil))))) pss_nil) (by
      rintro D σ H ⟨tp, ca, m, o2, o3, o4, rfl, hT, k⟩
      refine ⟨_, rfl, rfl, _, rfl, ?_⟩
      refine ite2 (fun _ => ?_) (fun _ => ?_)
      · exact ⟨_, rfl, tp, ca, 4, rfl, hT, by decide, by decide, fun H1 r hr1 R1 => k H1 r R1⟩
      · exact k H m (Rn.refl hT)))
    (pss_cons (ps_if (pt_cmpR op_eq (pv 1) pe_int (nomark _)) 
      (pss_one (ps_ret (pe_tup (pa_cons (pe_c0 GDraw hr (by decide) rfl (pa_cons (pv 0) (pa_cons pe_int pa_nil))) pa_nil)))) pss_nil) 
    (pss_cons (ps_if (pt_cmpR op_eq (pv 1) pe_int (nomark _)) 
      (pss_one (ps_ret (pe_callTy call_tuple_of (by rfl) T0.tuple PyProof.Rows.boot_tuple (pa_cons (pe_lc (own := [("k", 2)]) (g := gName 2) (tt := tYes) (by rfl) sc_law_rank.nd (pi_range1 (by rfl) T0.range (pa_cons (pe_c0 GDraw hr (by decide) rfl (pa_cons (pv 0) (pa_cons pe_int pa_nil))) pa_nil)) (blkOk_by (own := [("k", 2)]) (N := N_law_rank) (sc := defScope s_law_rank) (by decide +kernel)) (fun _ _ _ _ _ => pg_name (i := 2) sc_law_rank.nd rfl (Or.inl rfl)) (fun _ _ _ _ _ => pts_nil) (fun _ _ _ _ _ => by exact (pe_c0 GDraw hr (by decide) rfl (pa_cons (pv 0) (pa_cons pe_int pa_nil))))) pa_nil)))) pss_nil) 
    (pss_cons (ps_if (pt_cmpR op_eq (pv 1) pe_int (nomark _)) 
      (pss_one (ps_ret (pe_tup (pa_cons (pe_op op_sub (pe_c0 GDraw hr (by decide) rfl (pa_cons (pv 0) (pa_cons pe_int pa_nil))) pe_int) pa_nil)))) pss_nil) 
    (pss_cons (ps_set (i := 3) sc_law_rank.nd rfl (.inl rfl) (pe_op op_sub (pe_conv (t' := tC (.int rankB)) (pe_op op_shl pe_int pe_int) (shl_of (by decide) (by decide +kernel))) pe_int)) 
    (pss_cons (ps_set (i := 4) sc_law_rank.nd rfl (.inr rfl) (pe_tup (pa_cons pe_int (pa_cons pe_int (pa_cons (pe_un un_neg pe_int) (pa_cons (pv 3) (pa_cons (pe_un un_neg (pv 3)) (pa_cons (pe_op op_sub (pv 3) pe_int) pa_nil)))))))) 
    (pss_one (ps_ret (pe_callTy call_tuple_of (by rfl) T0.tuple PyProof.Rows.boot_tuple (pa_cons (pe_lc (own := [("k", 2)]) (g := gName 2) (tt := tYes) (by rfl) sc_law_rank.nd (pi_range1 (by rfl) T0.range (pa_cons (pe_c0 GDraw hr (by decide) rfl (pa_cons (pv 0) (pa_cons pe_int pa_nil))) pa_nil)) (blkOk_by (own := [("k", 2)]) (N := N_law_rank) (sc := defScope s_law_rank) (by decide +kernel)) (fun _ _ _ _ _ => pg_name (i := 2) sc_law_rank.nd rfl (Or.inl rfl)) (fun _ _ _ _ _ => pts_nil) (fun _ _ _ _ _ => by exact (pe_ix (show IxR _ (rIxT K) from ix_tup) (pv 4) (pe_c0 GDraw hr (by decide) rfl (pa_cons (pv 0) (pa_cons pe_int pa_nil))) (fun _ _ => rfl)))) pa_nil)))))))))), ?_⟩
  refine ⟨tp, ca, m, _, _, _, rfl, hT, fun HN m' R00 => ?_⟩
  have q' : ∀ H' a ns, Rn K tp ca HN H' → RankI ns → HN a = none → H' a = some (.tup (ns.map V.int)) → Q (.ref a) H' := fun H' a ns r hr hn ha => q H' a ns (R00.trans r) hr (R00.free hn) ha
  have hT' := R00.b
  have b0 : -rankB < 0 ∧ 0 < rankB := by decide
  have row : ∀ (n : Nat) (g : Nat → Int), (∀ r, -rankB < g r ∧ g r < rankB) → True := fun _ _ _ => trivial
  refine ⟨_, rfl, rfl, _, rfl, ?_⟩
  refine ite2 (fun _ => ?_) (fun _ => ?_)
  · refine ⟨_, rfl, tp, ca, 3, rfl, hT', by decide, by decide, fun H1 r hr1 R1 => ⟨(by show 1 ≤ sizeLine; decide), fun p hp => ?_⟩⟩
    have R2 := R1.same (same_new hp : Same H1 (upd H1 p (.tup [.int (r : Nat)])))
    refine q' _ p [(r : Nat)] R2 ⟨by show 1 ≤ 8; decide, fun i hi => ?_⟩ (R1.free hp) upd_same
    obtain rfl : i = (r : Nat) := by simpa using hi
    unfold rankB
    omega
  refine ⟨_, rfl, rfl, _, rfl, ?_⟩
  refine ite2 (fun _ => ?_) (fun _ => ?_)
  · refine ⟨_, rfl, tp, ca, 4, rfl, hT', by decide, by decide, fun H1 n hn R1 => ?_⟩
    refine ⟨_, rfl, by omega, by omega, fun Dl hDl => lc_range (lo := 0) (n := n) (fun k H' => Rn K tp ca HN H' ∧ ∃ ns : List Int, H' Dl = some (.lst (ns.map V.int)) ∧ ns.length = k ∧ ∀ i ∈ ns, -rankB < i ∧ i < rankB) ⟨R1.mut (R1.free hDl), [], upd_same, rfl, fun i h => nomatch h⟩ ?_ ?_⟩
    · rintro k H' hk ⟨R2, ns, hD, hl, hb⟩
      refine ⟨rfl, _, rfl, tp, ca, 2, rfl, R2.b, by decide, by decide, fun H3 r hr3 R3 => ?_⟩
      refine ⟨_, R3.at hD (R1.b.new hDl), small1000 (by rw [List.length_map]; omega), (R2.trans R3).mut (R1.free hDl), ns ++ [((r : Nat) : Int)], by rw [upd_same, List.map_append]; rfl, by rw [List.length_append]; show ns.length + 1 = k + 1; omega, fun i hi => ?_⟩
      rcases List.mem_append.mp hi with hi | hi
      · exact hb i hi
      · obtain rfl : i = (r : Nat) := by simpa using hi
        unfold rankB
        omega
    · rintro H' ⟨R2, ns, hD, hl, hb⟩
      refine ⟨Dl, _, rfl, .inl ⟨SqL.of hD, fun l hl2 => ?_⟩⟩
      have R3 := R2.same (same_new hl2 : Same H' (upd H' l (.tup (ns.map V.int))))
      exact q' _ l ns R3 ⟨by omega, hb⟩ (R2.free hl2) upd_same
  refine ⟨_, rfl, rfl, _, rfl, ?_⟩
  refine ite2 (fun _ => ?_) (fun _ => ?_)
  · refine ⟨_, rfl, tp, ca, 700001, rfl, hT', by decide, by decide, fun H1 r hr1 R1 => ⟨_, _, rfl, rfl, (by show 1 ≤ sizeLine; decide), fun p hp => ?_⟩⟩
    have R2 := R1.same (same_new hp : Same H1 (upd H1 p (.tup [.int ((r : Nat) - 350001)])))
    refine q' _ p [(r : Nat) - 350001] R2 ⟨by show 1 ≤ 8; decide, fun i hi => ?_⟩ (R1.free hp) upd_same
    obtain rfl : i = (r : Nat) - 350001 := by simpa using hi
    unfold rankB
    omega
  refine ⟨_, _, rfl, rfl, ?_⟩
  have e0 : rankB - 1 = edgeI := by decide +kernel
  show _
  refine ⟨_, rfl, _, rfl, _, rfl, _, rfl, _, rfl, _, _, rfl, rfl, (by show 6 ≤ sizeLine; decide), fun pm hpm => ?_⟩
  have hmenu : ∀ v ∈ [V.int 0, .int 1, .int (-1), .int (rankB - 1), .int (-(rankB - 1)), .int (rankB - 1 - 1)], ∃ i : Int, v = .int i ∧ -rankB < i ∧ i < rankB := by
    intro v hv
    simp only [List.mem_cons, List.not_mem_nil, or_false] at hv
    have hrb : (2 : Int) < rankB := by decide
    rcases hv with rfl | rfl | rfl | rfl | rfl | rfl
    · exact ⟨_, rfl, by decide, by decide⟩
    · exact ⟨_, rfl, by decide, by decide⟩
    · exact ⟨_, rfl, by decide, by decide⟩
    · exact ⟨_, rfl, by omega, by omega⟩
    · exact ⟨_, rfl, by omega, by omega⟩
    · exact ⟨_, rfl, by omega, by omega⟩
  have hM : (upd HN pm (.tup [V.int 0, .int 1, .int (-1), .int (rankB - 1), .int (-(rankB - 1)), .int (rankB - 1 - 1)])) pm = some (.tup [V.int 0, .int 1, .int (-1), .int (rankB - 1), .int (-(rankB - 1)), .int (rankB - 1 - 1)]) := upd_same
  have R0 := Rn.of hT' (same_new hpm : Same HN (upd HN pm (.tup [V.int 0, .int 1, .int (-1), .int (rankB - 1), .int (-(rankB - 1)), .int (rankB - 1 - 1)])))
  have hml : ([V.int 0, .int 1, .int (-1), .int (rankB - 1), .int (-(rankB - 1)), .int (rankB - 1 - 1)] : List V).length = 6 := rfl
  revert hmenu hM R0 hml
  show _ → _ → _ → _ → _
  generalize ([V.int 0, .int 1, .int (-1), .int (rankB - 1), .int (-(rankB - 1)), .int (rankB - 1 - 1)] : List V) = mv
  generalize upd HN pm (.tup mv) = H0
  intro hmenu hM R0 hml
  refine ⟨_, rfl, tp, ca, 9, rfl, R0.b, by decide, by decide, fun H1 n hn R1 => ?_⟩
  have R1' := R0.trans R1
  refine ⟨_, rfl, by omega, by omega, fun Dl hDl => lc_range (lo := 0) (n := n) (fun k H' => Rn K tp ca H1 H' ∧ ∃ ns : List Int, H' Dl = some (.lst (ns.map V.int)) ∧ ns.length = k ∧ ∀ i ∈ ns, -rankB < i ∧ i < rankB) ⟨(Rn.refl R1.b).mut hDl, [], upd_same, rfl, fun i h => nomatch h⟩ ?_ ?_⟩
  · rintro k H' hk ⟨R2, ns, hD, hl, hb⟩
    refine ⟨rfl, _, rfl, _, rfl, tp, ca, 6, rfl, R2.b, by decide, by decide, fun H3 r hr3 R3 => ?_⟩
    have hM3 := (R1.trans (R2.trans R3)).at hM (hT'.new hpm)
    have hx : mv[r]? = some (mv[r]'(by omega)) := List.getElem?_eq_getElem (by omega)
    obtain ⟨i, hi, hib⟩ := hmenu _ (List.mem_of_getElem? hx)
    rw [hi] at hx
    refine ⟨pm, mv, _, _, rfl, rfl, SqT.of hM3, atI_nat hx, ?_⟩
    refine ⟨_, R3.at hD (R1.b.new hDl), small1000 (by rw [List.length_map]; omega), (R2.trans R3).mut hDl, ns ++ [i], by rw [upd_same, List.map_append]; rfl, by rw [List.length_append]; show ns.length + 1 = k + 1; omega, fun j hj => ?_⟩
    rcases List.mem_append.mp hj with hj | hj
    · exact hb j hj
    · obtain rfl : j = i := by simpa using hj
      exact hib
  · rintro H' ⟨R2, ns, hD, hl, hb⟩
    refine ⟨Dl, _, rfl, .inl ⟨SqL.of hD, fun l hl2 => ?_⟩⟩
    have R3 := (R1'.trans R2).same (same_new hl2 : Same H' (upd H' l (.tup (ns.map V.int))))
    exact q' _ l ns R3 ⟨by omega, hb⟩ ((R1'.trans R2).free hl2) upd_same
end
end K26
set_option Elab.async false
set_option linter.all false
set_option maxRecDepth 100000
set_option maxHeartbeats 4000000
namespace L2
open PySem PySem.Spec PyProof.Rows
/-! ### a def called by keywords alone -/
structure KwF (fd : FuncData) (ps ks : List Str) (g : {α : Type} → List α → List α) : Prop where
  to : ∀ (s : Shared) (ws : List Value), ws.length = ks.length → BindsTo s fd ⟨[], ks.zip ws⟩ (ps.zip (g ws))
  rel : ∀ {zs : List V} {ws : List Value}, Vals zs ws → Vals (g zs) (g ws)
structure KwAt (K : PySem.W.Frag) (mg : Str → Option Value) (x : Str) (ps ks : List Str) (g : {α : Type} → List α → List α) : Prop where
  ex : ∃ (f : Addr) (fd : FuncData), mg x = some (.ref f) ∧ LkF K f fd ∧ KwF fd ps ks g
def tCallKS (sp : Sp) (n : Nat) (gV : List V → List V) (E : St → XK) (tk : TA) : TE := fun σ H Q => tk σ H fun zs H2 => zs.length = n ∧ sp (gV zs) H2 Q (E σ)
section
variable {X : Cx} {CX : CXT} {j k : Nat} {ps ks : List Str} {sp : Sp} {E : St → XK} {x : Str} {p pos : Pos} {kws : List Keyword} {tk : TA} {g : {α : Type} → List α → List α}
theorem run_kw0 {f : Addr} {fd : FuncData} {pins : List (Addr × Obj)} {σ : St} {H : Hp} {s : Shared} {Q : VK} {ws : List Value} {zs : List V} (F : FnOk X.prog X.w X.K X.mg X.base CX k f fd ps sp) (hr : Room k X.A) (hb : KwF fd ps ks g) (hx : PassesAt CX X σ (E σ))
    (I : Inv X pins σ H s) (rz : Vals zs ws) (hl : zs.length = ks.length) (h : sp (g zs) H Q (E σ)) : wpAny (model X.prog X.w) X.A (call (.ref f) [] (ks.zip ws)) (EP X pins σ Q) X.xe s := by
  have r2 : Vals (g zs) (g ws) := hb.rel rz
  refine wpAny_call (codeAny_mono (F.run X.A X.stack s H ⟨[], ks.zip ws⟩ (g ws) (g zs) Q (E σ) hr I.env0 (hb.to s ws (rz.length.symm.trans hl)) r2 h) fun r s' hq => ?_)
  cases r with
  | error e => exact hx pins H s e s' I hq
  | ok fl =>
    cases fl with
    | ret u => exact I.after hq
    | next => exact False.elim hq
    | brk => exact False.elim hq
    | cont => exact False.elim hq
theorem pe_kw (c : CalX X.prog X.w X.K X.mg X.base CX k x ps sp) (D : KwAt X.K X.mg x ps ks g) (hr : Room j X.A) (hk : k ≤ j) (hg : Gl X x) (hx : ∀ σ, PassesAt CX X σ (E σ)) (hkw : PK X kws tk)
    (hdb : (x == ("__debug__" : Str)) = false := by decide) (hall : (backToKw pos (keywordEach kws X.env)).all (·.1.isSome) = true := by rfl) (hks : (backToKw pos (keywordEach kws X.env)).filterMap (·.1) = ks := by rfl)
    (hpl : ((backTo pos (starEach [] X.env)).any (·.1) || (backToKw pos (keywordEach kws X.env)).any (·.1.isNone)) = false := by rfl) :
    PE X (.Call (.Name x p) [] kws pos) (tCallKS sp ks.length g E tk) := by
  obtain ⟨f, fd, F, hm, kp, _, lk⟩ := c.ex
  obtain ⟨f', fd', hm', lk', kb⟩ := D.ex
  rw [hm] at hm'
  injection hm' with hm'
  injection hm' with hm'
  subst hm'
  obtain rfl := lk.inj lk'
  refine ⟨fun pins s σ H Q I h => ?_⟩
  refine wpAny_Call_Name_kw (ld_glob I hg hm ?_ hdb)
  refine PySem.W.callWith_KW0 (first := []) (h₀ := X.base) I.ok.mod.kin kp hall ?_ hpl
  refine thn (hkw.run pos pins s σ H _ I h) fun ws s2 ⟨zs, H2, I2, rz, hl, q2⟩ => ⟨I2.kIn, ?_⟩
  rw [hks]
  exact run_kw0 F (hr.mono hk) kb (hx σ) I2 rz hl q2
end
section
variable {X : Cx} {CX : CXT} {j k : Nat} {x : Str} {ps : List Str} {sp : Sp} {E : St → XK} {p pos : Pos} {e : Expr} {es : List Expr} {t : TA}
/-- a call whose error goes to a try of this def -/
theorem pe_cxS (c : CalX X.prog X.w X.K X.mg X.base CX k x ps sp) (hr : Room j X.A) (hk : k ≤ j) (hg : Gl X x) (hx : ∀ σ, PassesAt CX X σ (E σ)) (ha : PA X (e :: es) t)
    (hdb : (x == ("__debug__" : Str)) = false := by decide) (he : starEach (e :: es) X.env = (false, eval e X.env) :: starEach es X.env := by rfl) (hpl : (backTo pos (starEach es X.env)).any (·.1) = false := by rfl) :
    PE X (.Call (.Name x p) (e :: es) [] pos) (tCallS sp E t) := by
  obtain ⟨f, fd, F, hm, kp, b, _⟩ := c.ex
  exact pe_callS F (hr.mono hk) hg hm kp b hx ha hdb he hpl
end
/-! ### isinstance(e, C) of a caught error with a dict -/
def rIsX (K : PySem.W.Frag) (a : Addr) (cls : Value) (d : Option Addr) : List V → Hp → VK → Prop := fun xs H Q => ∃ (D dd : Addr) (fs : List (Str × V)) (c : V) (cv : Value) (b : Bool), cls = .ref D ∧ d = some dd ∧ ExcC K D ∧ xs = [.ref a, c] ∧ (∀ u, RelV c u → u = cv) ∧ PySem.W.kitOne K (.ref D) cv = some b ∧ H dd = some (.xd fs) ∧ Q (.bl b) H
theorem call_isX {X : Cx} {a : Addr} {oe : Obj} {cls : Value} {d : Option Addr} {pn : List (Addr × Obj)} (hz : Zc cls d oe) (hf : ∃ vs, oe.data = .fields vs) : CallR (X.suite a ((a, oe) :: pn)) (.builtin "isinstance") (rIsX X.K a cls d) := by
  intro pins s σ H xs us Q I r h
  obtain ⟨D, dd, fs, c, cv, b, rfl, rfl, C, rfl, hcv, e, ea, q⟩ := h
  cases r with
  | cons rx rr =>
    cases rr with
    | cons rt rr =>
      cases rr
      cases rx
      have ec := hcv _ rt
      subst ec
      obtain ⟨hget, _⟩ := I.pin (a, oe) (List.mem_append.mpr (.inl List.mem_cons_self))
      obtain ⟨vs, hd⟩ := hf
      have hx : ObjOk X.prog X.w H s.heap dd (.xd fs) := I.hok dd _ ea
      obtain ⟨mA, hns, hr⟩ := hx
      obtain ⟨od, ho, hl⟩ := lookIn_ns hns
      have J : PySem.W.InstAt s.heap a oe D (some od) := ⟨hget, hz.1, by unfold PySem.W.notCls; rw [hd] <;> rfl, by rw [hz.2]; exact ho⟩
      have hcl : (PySem.W.clsIn X.K D).isSome = true := by
        obtain ⟨cd, hc, _⟩ := PySem.W.any_some C.hd
        rw [hc]
        rfl
      exact PySem.W.kia_one (PySem.W.kitx_exc hcl C.hg C.hk C.hs C.ha C.hn C.ht C.hm) I.kIn J e (fun z => nomatch z) fun tk => ⟨.bl b, H, I.tok tk, rfl, q⟩
end L2
set_option Elab.async false
set_option linter.all false
set_option maxRecDepth 100000
set_option maxHeartbeats 8000000
namespace K26
open PySem PySem.Spec PyProof.Rows L2 Dt
def idL {α : Type} (l : List α) : List α := l
def revL {α : Type} (l : List α) : List α := l.reverse
def rotL {α : Type} : List α → List α | a :: r => r ++ [a] | [] => []
theorem idL_rel {zs : List V} {ws : List Value} (h : Vals zs ws) : Vals (idL zs) (idL ws) := h
theorem revL_rel {zs : List V} {ws : List Value} (h : Vals zs ws) : Vals (revL zs) (revL ws) := by
  unfold revL
  induction h with
  | nil => exact .nil
  | cons r _ ih =>
    rw [List.reverse_cons, List.reverse_cons]
    exact ih.append (.cons r .nil)
theorem rotL_rel {zs : List V} {ws : List Value} (h : Vals zs ws) : Vals (rotL zs) (rotL ws) := by
  cases h with
  | nil => exact .nil
  | cons r t => exact (show Vals _ _ from t).append (.cons r .nil)
theorem seq_str {a b : Str} (h : a = b) : decide (V.str a = V.str b) = true := decide_eq_true (by rw [h])
theorem sne_str {a b : Str} (h : a ≠ b) : decide (V.str a = V.str b) = false := decide_eq_false fun z => h (by injection z)
/-- the classes of errors -/
structure EK (K : PySem.W.Frag) (mg : Str → Option Value) (U B S PA : Addr) : Prop where
  gB : mg "BoughError" = some (.ref B)
  gS : mg "ShapeError" = some (.ref S)
  gP : mg "InvalidPaper" = some (.ref PA)
  ec : ExcC K U
  tB : PySem.W.exmOne K (.ref U) (.ref B) = some true
  kS : PySem.W.kitOne K (.ref U) (.ref S) = some true
  kP : PySem.W.kitOne K (.ref U) (.ref PA) = some false
def Refd (K : PySem.W.Frag) (H : Hp) (Q : VK) (z : Str) : Prop := ∀ v H', Same H H' → DpF K H H' v (.tuple [.str "refused", .str z, .int (-1)]) → Q v H'
/-- the except suite -/
def tSuite (U a : Addr) (cls : Value) (d : Option Addr) : TS := fun D σ H => ∃ (z : Str) (dd : Addr), cls = .ref U ∧ d = some dd ∧ σ[4]? = some (some (.ref a)) ∧ H dd = some (xdO z (-1)) ∧ ∀ r, H r = none → D.rt (.ref r) (upd H r (.tup [.str "refused", .str z, .int (-1)]))
theorem ask_err {K : PySem.W.Frag} {mg : Str → Option Value} {U B S PA : Addr} {H H1 : Hp} {Q : VK} {z : Str} {D : Ends} {σ : L2.St} (EE : EK K mg U B S PA) (hD : D.rt = Q) (hσ : σ.length = 5) (s1 : Same H H1) (q : Refd K H Q z) :
    Out U z H1 (WE (wAs1 K (.ref B) 4 (tSuite U) D) σ) := by
  intro d hd
  refine ⟨EE.tB, fun a0 ha0 => ⟨z, d, rfl, rfl, ?_, upd_same, fun r hr2 => ?_⟩⟩
  · rw [List.getElem?_set_self (by omega)]
  · show D.rt (.ref r) _
    rw [hD]
    have sd : Same H1 (upd H1 d (xdO z (-1))) := same_new hd
    refine q (.ref r) _ (s1.trans (sd.trans (same_new hr2))) fun H3 hk => ?_
    exact .tup (SqT.of (hk r _ (s1.free (sd.free hr2)) upd_same)) (.cons (.str _) (.cons (.str _) (.cons (.int _) .nil)))
/-! ### _law_ask -/
def AskOrd (K : PySem.W.Frag) (C CS : Addr) (x y : V) (H : Hp) (Q : VK) : Prop := ∃ g : Bool, StV K CS H x g ∧ (g = false → Refd K H Q "standing") ∧
  (g = true → ∃ (a ta la sd : Addr) (S Ls : List Addr) (T : Dt) (L : Lns) (kv : List (Key × V)) (o : Option Int), x = .ref a ∧ StE K C CS S H a ta la sd Ls T L kv ∧ T.ht < 20 ∧ Con T L ∧ (∀ q, (L q).length ≤ 100000) ∧ NumV K H y o ∧
    (belowB (T.nodes : Nat) o = false → Refd K H Q "node") ∧
    (∀ q u, o = some (T.idx q : Nat) → sub T q = some u → ∀ H' p, Same H H' → H p = none → H' p = some (.tup ((ord u (at_ q L)).map V.int)) → Q (.ref p) H'))
def AskPl (K : PySem.W.Frag) (C CS : Addr) (x y z : V) (H : Hp) (Q : VK) : Prop := ∃ g : Bool, StV K CS H x g ∧ (g = false → Refd K H Q "standing") ∧
  (g = true → ∃ (a ta la sd : Addr) (S Ls : List Addr) (T : Dt) (L : Lns) (kv : List (Key × V)) (o on : Option Int), x = .ref a ∧ StE K C CS S H a ta la sd Ls T L kv ∧ T.ht < 20 ∧ Con T L ∧ Seat T L kv ∧ (∀ q, (L q).length ≤ 100000) ∧ NumV K H y o ∧ NumV K H z on ∧
    (belowB (T.nodes : Nat) o = false → Refd K H Q "node") ∧
    (∀ q u, o = some (T.idx q : Nat) → sub T q = some u → belowB packB on = false → Refd K H Q "number") ∧
    (∀ q u n, o = some (T.idx q : Nat) → sub T q = some u → on = some n → belowB packB on = true → n ∉ ord u (at_ q L) → Refd K H Q "number") ∧
    (∀ q u n (j : Nat), o = some (T.idx q : Nat) → sub T q = some u → on = some n → (ord u (at_ q L))[j]? = some n → (∀ i, i < j → (ord u (at_ q L))[i]? ≠ some n) → ∀ H', Same H H' → Q (.int (j : Nat)) H'))
def spAsk (K : PySem.W.Frag) (C CS : Addr) : Sp := fun vs H Q _ => ∃ (z0 : Str) (x y z : V), vs = [.str z0, x, y, z] ∧ (((z0 = "order" ∨ z0 = "named order") ∧ AskOrd K C CS x y H Q) ∨ ((z0 = "place" ∨ z0 = "named place") ∧ AskPl K C CS x y z H Q))
section
variable {P : Program} {w : World} {K : PySem.W.Frag} {mg : Str → Option Value} {base : Heap} {C CS U fI B S PA : Addr}
theorem ok_ask (D : DefAt K mg "_law_ask" s_law_ask ["word", "standing", "node", "number"]) (T : Txt K mg) (N : NUT K mg U fI) (EE : EK K mg U B S PA)
    (GOr : CalX P w K mg base (L2.CX P w) 21 "order_of" ["standing", "node"] (spOrderOf K C CS U)) (KOr : KwAt K mg "order_of" ["standing", "node"] ["node", "standing"] revL)
    (GPl : CalX P w K mg base (L2.CX P w) 21 "place_of" ["standing", "node", "number"] (spPlaceOf K C CS U)) (KPl : KwAt K mg "place_of" ["standing", "node", "number"] ["number", "node", "standing"] revL) :
    CalX P w K mg base CX0 22 "_law_ask" ["word", "standing", "node", "number"] (spAsk K C CS) := by
  refine D.ok sc_law_ask (fun vs H Q E h => ?_) (fun f cdv A outer s H vs Q E hr h => ?_)
  · obtain ⟨z0, x, y, z, rfl, _⟩ := h
    rfl
  obtain ⟨z0, x, y, z, rfl, h⟩ := h
  refine ⟨_, pss_cons (ps_try_as2 (i := 4) rfl rfl sc_law_ask.nd rfl rfl ⟨rfl, by decide, Or.inl EE.gB⟩
    (fun W pn xe tk _ => (pss_cons (ps_if (pt_cmpR op_eq (pv 0) pe_str (nomark _)) (pss_one (ps_ret (by exact (pe_cxS GOr hr (by decide) rfl (fun σ => passAt tk σ) (by exact (pa_cons (pv 1) (pa_cons (pv 2) pa_nil))))))) pss_nil)
      (pss_cons (ps_if (pt_cmpR op_eq (pv 0) pe_str (nomark _)) (pss_one (ps_ret (by exact (pe_kw GOr KOr hr (by decide) rfl (fun σ => passAt tk σ) (by exact (pk_cons (pv 2) (pk_cons (pv 1) pk_nil))))))) pss_nil)
      (pss_cons (ps_if (pt_cmpR op_eq (pv 0) pe_str (nomark _)) (pss_one (ps_ret (by exact (pe_cxS GPl hr (by decide) rfl (fun σ => passAt tk σ) (by exact (pa_cons (pv 1) (pa_cons (pv 2) (pa_cons (pv 3) pa_nil)))))))) pss_nil)
      (pss_one (ps_ret (by exact (pe_kw GPl KPl hr (by decide) rfl (fun σ => passAt tk σ) (by exact (pk_cons (pv 3) (pk_cons (pv 2) (pk_cons (pv 1) pk_nil))))))))))))
    (fun a oe cls d pn hz hf => (pss_one (ps_conv (t' := tSuite U a cls d) (ps_if (PW.pt (pw_and (pt_val (pe_callB (call_isX hz hf) (by rfl) T.isinstance boot_isinstance (pa_cons (pv 4) (pa_cons (pe_glob (v := .ref U) (by rfl) N.gU rfl) pa_nil)))) (pw_and (pt_val (pe_callB (call_isX hz hf) (by rfl) T.isinstance boot_isinstance (pa_cons (pv 4) (pa_cons (pe_glob (v := .ref S) (by rfl) EE.gS rfl) pa_nil)))) (pw_and1 (pt_not (pt_val (pe_callB (call_isX hz hf) (by rfl) T.isinstance boot_isinstance (pa_cons (pv 4) (pa_cons (pe_glob (v := .ref PA) (by rfl) EE.gP rfl) pa_nil))))))))) (pss_one (ps_ret (pe_tup (pa_cons pe_str (pa_cons (pe_xf N.xf N.nw hz hf (pv 4)) (pa_cons (pe_xf N.xf N.na hz hf (pv 4)) pa_nil)))))) pss_nil) (by
      rintro D σ H ⟨z, dd, rfl, rfl, hs, hd, q⟩
      refine ⟨_, hs, U, dd, _, _, _, _, rfl, rfl, EE.ec, rfl, (fun u h => h), kit_self, hd, ⟨_, rfl, ?_⟩⟩
      refine iteT ?_
      refine ⟨_, hs, U, dd, _, _, _, _, rfl, rfl, EE.ec, rfl, (fun u h => h), EE.kS, hd, ⟨_, rfl, ?_⟩⟩
      refine iteT ?_
      refine ⟨_, hs, U, dd, _, _, _, _, rfl, rfl, EE.ec, rfl, (fun u h => h), EE.kP, hd, ⟨_, rfl, ?_⟩⟩
      refine iteT ?_
      exact ⟨_, hs, rfl, rfl, dd, _, _, rfl, hd, rfl, _, hs, rfl, rfl, dd, _, _, rfl, hd, rfl, (by show 3 ≤ sizeLine; decide), q⟩)))))
    (pss_one (ps_ret (pe_tup (pa_cons pe_str pa_nil)))), ?_⟩
  have toU : ∀ (z : Str) (H1 : Hp) (D : Ends) (σ : L2.St), D.rt = Q → σ.length = 5 → Same H H1 → Refd K H Q z → Out U z H1 (WE (wAs1 K (.ref B) 4 (tSuite U) D) σ) := fun z H1 D σ hD hl s1 r => ask_err EE hD hl s1 r
  rcases h with ⟨hw, g, hx, q1, q2⟩ | ⟨hw, g, hx, q1, q2⟩
  · rcases hw with hw | hw
    · subst hw
      refine ⟨_, rfl, rfl, _, rfl, ?_⟩
      rw [seq_str rfl]
      refine iteT ?_
      refine ⟨_, rfl, _, rfl, x, y, g, rfl, hx, (fun e H1 s1 => toU _ H1 _ _ rfl rfl s1 (q1 e)), fun e => ?_⟩
      obtain ⟨a, ta, la, sd, S', Ls, T', L, kv, o, e1, st, h1, h2, h3, h4, r1, r2⟩ := q2 e
      exact ⟨a, ta, la, sd, S', Ls, T', L, kv, o, e1, st, h1, h2, h3, h4, (fun e H1 s1 => toU _ H1 _ _ rfl rfl s1 (r1 e)), r2⟩
    · subst hw
      refine ⟨_, rfl, rfl, _, rfl, ?_⟩
      rw [sne_str (by decide +kernel)]
      refine iteF ?_
      refine ⟨_, rfl, rfl, _, rfl, ?_⟩
      rw [seq_str rfl]
      refine iteT ?_
      refine ⟨_, rfl, _, rfl, rfl, x, y, g, rfl, hx, (fun e H1 s1 => toU _ H1 _ _ rfl rfl s1 (q1 e)), fun e => ?_⟩
      obtain ⟨a, ta, la, sd, S', Ls, T', L, kv, o, e1, st, h1, h2, h3, h4, r1, r2⟩ := q2 e
      exact ⟨a, ta, la, sd, S', Ls, T', L, kv, o, e1, st, h1, h2, h3, h4, (fun e H1 s1 => toU _ H1 _ _ rfl rfl s1 (r1 e)), r2⟩
  · rcases hw with hw | hw
    · subst hw
      refine ⟨_, rfl, rfl, _, rfl, ?_⟩
      rw [sne_str (by decide +kernel)]
      refine iteF ?_
      refine ⟨_, rfl, rfl, _, rfl, ?_⟩
      rw [sne_str (by decide +kernel)]
      refine iteF ?_
      refine ⟨_, rfl, rfl, _, rfl, ?_⟩
      rw [seq_str rfl]
      refine iteT ?_
      refine ⟨_, rfl, _, rfl, _, rfl, x, y, z, g, rfl, hx, (fun e H1 s1 => toU _ H1 _ _ rfl rfl s1 (q1 e)), fun e => ?_⟩
      obtain ⟨a, ta, la, sd, S', Ls, T', L, kv, o, on, e1, st, h1, h2, h2', h3, h4, h5, r1, r2, r3, r4⟩ := q2 e
      exact ⟨a, ta, la, sd, S', Ls, T', L, kv, o, on, e1, st, h1, h2, h2', h3, h4, h5, (fun e H1 s1 => toU _ H1 _ _ rfl rfl s1 (r1 e)), (fun q u a1 a2 a3 H1 s1 => toU _ H1 _ _ rfl rfl s1 (r2 q u a1 a2 a3)), (fun q u n a1 a2 a3 a4 a5 H1 s1 => toU _ H1 _ _ rfl rfl s1 (r3 q u n a1 a2 a3 a4 a5)), r4⟩
    · subst hw
      refine ⟨_, rfl, rfl, _, rfl, ?_⟩
      rw [sne_str (by decide +kernel)]
      refine iteF ?_
      refine ⟨_, rfl, rfl, _, rfl, ?_⟩
      rw [sne_str (by decide +kernel)]
      refine iteF ?_
      refine ⟨_, rfl, rfl, _, rfl, ?_⟩
      rw [sne_str (by decide +kernel)]
      refine iteF ?_
      refine ⟨_, rfl, _, rfl, _, rfl, rfl, x, y, z, g, rfl, hx, (fun e H1 s1 => toU _ H1 _ _ rfl rfl s1 (q1 e)), fun e => ?_⟩
      obtain ⟨a, ta, la, sd, S', Ls, T', L, kv, o, on, e1, st, h1, h2, h2', h3, h4, h5, r1, r2, r3, r4⟩ := q2 e
      exact ⟨a, ta, la, sd, S', Ls, T', L, kv, o, on, e1, st, h1, h2, h2', h3, h4, h5, (fun e H1 s1 => toU _ H1 _ _ rfl rfl s1 (r1 e)), (fun q u a1 a2 a3 H1 s1 => toU _ H1 _ _ rfl rfl s1 (r2 q u a1 a2 a3)), (fun q u n a1 a2 a3 a4 a5 H1 s1 => toU _ H1 _ _ rfl rfl s1 (r3 q u n a1 a2 a3 a4 a5)), r4⟩
end
end K26
set_option Elab.async false
set_option linter.all false
set_option maxRecDepth 100000
set_option maxHeartbeats 8000000
namespace K26
open PySem PySem.Spec PyProof.Rows L2 Dt
/-! ### the methods of a standing, called where they do not raise -/
theorem fn_quiet {P : Program} {w : World} {K : PySem.W.Frag} {mg : Str → Option Value} {base : Heap} {k : Nat} {f : Addr} {fd : FuncData} {ps : List Str} {sp sp' : Sp} (F : FnOk P w K mg base (L2.CX P w) k f fd ps sp) (h : ∀ vs H Q E, sp' vs H Q E → sp vs H Q (fun _ _ _ => False)) : FnOk P w K mg base CX0 k f fd ps sp' :=
  ⟨fun vs H Q E z => F.len vs H Q _ (h vs H Q E z), fun A outer s H args us vs Q E hr e b v z => codeAny_mono (F.run A outer s H args us vs Q _ hr e b v (h _ _ _ _ z)) fun r s' hq => by
    match r, hq with
    | .ok fl, hq =>
      cases fl with
      | ret u => exact hq
      | _ => exact hq.elim
    | .error e, hq =>
      obtain ⟨_, _, _, _, _, _, _, _, _, _, _, _, z⟩ := hq
      exact z⟩
theorem cal_quiet {P : Program} {w : World} {K : PySem.W.Frag} {mg : Str → Option Value} {base : Heap} {k : Nat} {x : Str} {ps : List Str} {sp sp' : Sp} (F : CalX P w K mg base (L2.CX P w) k x ps sp) (h : ∀ vs H Q E, sp' vs H Q E → sp vs H Q (fun _ _ _ => False)) : CalX P w K mg base CX0 k x ps sp' := by
  obtain ⟨f, fd, z1, z2⟩ := F.ex
  exact ⟨f, fd, fn_quiet z1 h, z2⟩
structure MQ (P : Program) (w : World) (K : PySem.W.Frag) (mg : Str → Option Value) (base : Heap) (C : Addr) (k : Nat) (m : Str) (ps : List Str) (sp : Sp) : Prop where
  ex : ∃ f fd, Meth K C m f ∧ FnOk P w K mg base CX0 k f fd ps sp ∧ L2.Binds K fd ps []
section
variable {X : Cx} {j k : Nat} {C : Addr} {ps : List Str} {sp : Sp} {m : Str} {pos apos : Pos} {o e : Expr} {es : List Expr} {ta : TE} {t : TA}
theorem pe_m1 {pl : Sem Bool} (he : PE X o ta) (c : Cls X.K C) (M : MQ X.prog X.w X.K X.mg X.base C k m ps sp) (hr : Room j X.A) (hk : k ≤ j) (ha : PA X (e :: es) t)
    (hst : starEach (e :: es) X.env = (false, eval e X.env) :: starEach es X.env := by rfl) (hpl : (backTo pos (starEach es X.env)).any (·.1) = false := by rfl)
    (ht : eval (.Call (.Attribute o m apos) (e :: es) [] pos) X.env = (do
      let ov ← eval o X.env
      standAt apos.atName
      let (f, first) ← holding [ov] (getMethod ov m pl)
      callWith pos f first (backTo pos (starEach (e :: es) X.env)) (backToKw pos (keywordEach [] X.env))) := by rfl) :
    PE X (.Call (.Attribute o m apos) (e :: es) [] pos) (tMeth C m sp [] E0 ta t) := by
  obtain ⟨f, fd, hm, F, b⟩ := M.ex
  exact pe_meth he c hm F (hr.mono hk) b .nil pass0 ha hst hpl ht
theorem pe_m0 {pl : Sem Bool} (he : PE X o ta) (c : Cls X.K C) (M : MQ X.prog X.w X.K X.mg X.base C k m ps sp) (hr : Room j X.A) (hk : k ≤ j)
    (ht : eval (.Call (.Attribute o m apos) [] [] pos) X.env = (do
      let ov ← eval o X.env
      standAt apos.atName
      let (f, first) ← holding [ov] (getMethod ov m pl)
      callWith pos f first (backTo pos (starEach [] X.env)) (backToKw pos (keywordEach [] X.env))) := by rfl) :
    PE X (.Call (.Attribute o m apos) [] [] pos) (tMeth C m sp [] E0 ta tNil) := by
  obtain ⟨f, fd, hm, F, b⟩ := M.ex
  exact pe_meth0 he c hm F (hr.mono hk) b .nil pass0 ht
end
def spOrdQ (K : PySem.W.Frag) (C CS : Addr) : Sp := fun vs H Q _ => ∃ (a ta la sd : Addr) (S Ls : List Addr) (T u : Dt) (L : Lns) (kv : List (Key × V)) (q : Ad), vs = [.ref a, .int (T.idx q : Nat)] ∧ StE K C CS S H a ta la sd Ls T L kv ∧ T.ht < 20 ∧ Con T L ∧ (∀ q, (L q).length ≤ 100000) ∧ sub T q = some u ∧
  ∀ H' p, Same H H' → H p = none → H' p = some (.tup ((ord u (at_ q L)).map V.int)) → Q (.ref p) H'
def spPlQ (K : PySem.W.Frag) (C CS : Addr) : Sp := fun vs H Q _ => ∃ (a ta la sd : Addr) (S Ls : List Addr) (T u : Dt) (L : Lns) (kv : List (Key × V)) (q : Ad) (n : Int) (j : Nat), vs = [.ref a, .int (T.idx q : Nat), .int n] ∧ StE K C CS S H a ta la sd Ls T L kv ∧ T.ht < 20 ∧ Con T L ∧ Seat T L kv ∧ (∀ q, (L q).length ≤ 100000) ∧ sub T q = some u ∧ 0 ≤ n ∧ n < packB ∧
  (ord u (at_ q L))[j]? = some n ∧ (∀ i, i < j → (ord u (at_ q L))[i]? ≠ some n) ∧ ∀ H', Same H H' → Q (.int (j : Nat)) H'
def spPushQ (K : PySem.W.Frag) (C CS : Addr) : Sp := fun vs H Q _ => ∃ (a ta la sd : Addr) (S Ls : List Addr) (T : Dt) (L : Lns) (kv : List (Key × V)) (n : Int) (i : Nat) (p : Ad) (z : V) (rs : List (List Int)), vs = [.ref a, .int n, .int (i : Nat), z] ∧ StE K C CS S H a ta la sd Ls T L kv ∧ T.ht < 20 ∧ valV kv (Sum.inl n : Key) = none ∧ 0 ≤ n ∧ n < packB ∧ (lv T)[i]? = some p ∧ Dp K (offS S H) z (.tuple (rs.map intsD)) ∧ rs.length = p.length + 1 ∧ (∀ r ∈ rs, rankOf (intsD r) = true) ∧ (∀ q, (L q).length ≤ 100000) ∧ kv.length ≤ 100000 ∧
  ∀ H', GoS (sd :: Ls) H H' → StE K C CS S H' a ta la sd Ls T (pshL p rs n L) (putK kv (Sum.inl n : Key) (.int (i : Nat))) → Q .non H'
def spMadeQ (K : PySem.W.Frag) (C CS : Addr) : Sp := fun vs H Q _ => ∃ (a dx : Addr) (v : V) (t : Dt), vs = [.ref a, v] ∧ H a = some (.ins CS dx []) ∧ DtV K H v t ∧ t.size ≤ 100000 ∧ t.good 1 = true ∧ t.ht < 20 ∧ t.nodes ≤ 1000 ∧
  (∀ H' ta la sd Ls, StE K C CS (sd :: Ls) H' a ta la sd Ls t (fun _ => []) [] → TN K H (offS (sd :: Ls) H') C ta t ∧ H la = none → (∀ y o, H y = some o → y ≠ a → H' y = some o) → (∀ y ∈ sd :: Ls, H y = none) → Q .non H')
theorem stv_of {K : PySem.W.Frag} {C CS : Addr} {S : List Addr} {H : Hp} {a ta la sd : Addr} {Ls : List Addr} {T : Dt} {L : Lns} {kv : List (Key × V)} (s : StE K C CS S H a ta la sd Ls T L kv) : StV K CS H (.ref a) true := by
  obtain ⟨dx, h⟩ := s.obj
  exact .inl ⟨rfl, a, dx, _, rfl, h⟩
theorem below_idx {T u : Dt} {q : Ad} (h : sub T q = some u) : belowB (T.nodes : Nat) (some (T.idx q : Nat)) = true := by
  have h1 := idx_lt h
  have h2 := nodes_pos u
  show (decide ((0 : Int) ≤ (T.idx q : Nat)) && decide (((T.idx q : Nat) : Int) < (T.nodes : Nat))) = true
  rw [decide_eq_true (by omega), decide_eq_true (by omega)]
  rfl
theorem below_pack {n : Int} (h : 0 ≤ n) (g : n < packB) : belowB packB (some n) = true := by
  show (decide (0 ≤ n) && decide (n < packB)) = true
  rw [decide_eq_true h, decide_eq_true g]
  rfl
theorem idx_sub {T u u' : Dt} {q q' : Ad} (h : sub T q = some u) (h' : sub T q' = some u') (e : (some ((T.idx q : Nat) : Int)) = some ((T.idx q' : Nat) : Int)) : q' = q ∧ u' = u := by
  have e2 : T.idx q = T.idx q' := by
    injection e with e
    omega
  have := idx_inj (sub_ad h) (sub_ad h') e2
  subst this
  rw [h] at h'
  exact ⟨rfl, (Option.some.inj h').symm⟩
section
variable {P : Program} {w : World} {K : PySem.W.Frag} {mg : Str → Option Value} {base : Heap} {C CS U : Addr}
theorem ordQ (G : CalX P w K mg base (L2.CX P w) 21 "order_of" ["standing", "node"] (spOrderOf K C CS U)) : CalX P w K mg base CX0 21 "order_of" ["standing", "node"] (spOrdQ K C CS) := by
  refine cal_quiet G fun vs H Q E h => ?_
  obtain ⟨a, ta, la, sd, S, Ls, T, u, L, kv, q, rfl, st, hht, con, hsz, hu, q1⟩ := h
  refine ⟨_, _, true, rfl, stv_of st, (fun z => nomatch z), fun _ => ⟨a, ta, la, sd, S, Ls, T, L, kv, _, rfl, st, hht, con, hsz, (show NumV K H _ (some _) from rfl), (fun z => ?_), fun q' u' e hu' H' p s1 hp hv => ?_⟩⟩
  · rw [below_idx hu] at z
    exact nomatch z
  · obtain ⟨rfl, rfl⟩ := idx_sub hu hu' e
    exact q1 H' p s1 hp hv
theorem plQ (G : CalX P w K mg base (L2.CX P w) 21 "place_of" ["standing", "node", "number"] (spPlaceOf K C CS U)) : CalX P w K mg base CX0 21 "place_of" ["standing", "node", "number"] (spPlQ K C CS) := by
  refine cal_quiet G fun vs H Q E h => ?_
  obtain ⟨a, ta, la, sd, S, Ls, T, u, L, kv, q, n, j, rfl, st, hht, con, se, hsz, hu, n0, n1, hj, hi, q1⟩ := h
  refine ⟨_, _, _, true, rfl, stv_of st, (fun z => nomatch z), fun _ => ⟨a, ta, la, sd, S, Ls, T, L, kv, _, _, rfl, st, hht, con, se, hsz, (show NumV K H _ (some _) from rfl), (show NumV K H _ (some _) from rfl), (fun z => ?_), (fun _ _ _ _ z => ?_), (fun q' u' n' e hu' e2 _ z => ?_), fun q' u' n' j' e hu' e2 hj' hi' H' s1 => ?_⟩⟩
  · rw [below_idx hu] at z
    exact nomatch z
  · rw [below_pack n0 n1] at z
    exact nomatch z
  · obtain ⟨rfl, rfl⟩ := idx_sub hu hu' e
    obtain rfl := Option.some.inj e2
    exact absurd (List.mem_of_getElem? hj) z
  · obtain ⟨rfl, rfl⟩ := idx_sub hu hu' e
    obtain rfl := Option.some.inj e2
    rcases Nat.lt_trichotomy j j' with c | c | c
    · exact absurd hj (hi' j c)
    · subst c
      exact q1 H' s1
    · exact absurd hj' (hi j' c)
theorem fit_ok {rs : List (List Int)} {n : Nat} (h : rs.length = n) (g : ∀ r ∈ rs, rankOf (intsD r) = true) : fitOf n (.tuple (rs.map intsD)) = true := by
  unfold fitOf
  show (decide ((rs.map intsD).length = n) && (rs.map intsD).all rankOf) = true
  rw [decide_eq_true (by rw [List.length_map, h]), Bool.true_and, List.all_eq_true]
  intro x hx
  obtain ⟨r, hr, rfl⟩ := List.mem_map.mp hx
  exact g r hr
theorem ints_inj : ∀ {a b : List Int}, intsD a = intsD b → a = b := fun {a b} h => by
  have := congrArg rkInts h
  rwa [rkInts_ints, rkInts_ints] at this
theorem map_ints_inj : ∀ {a b : List (List Int)}, a.map intsD = b.map intsD → a = b
  | [], [], _ => rfl
  | [], _ :: _, h => nomatch h
  | _ :: _, [], h => nomatch h
  | z1 :: a, z2 :: b, h => by
    rw [List.map_cons, List.map_cons] at h
    injection h with h1 h2
    rw [ints_inj h1, map_ints_inj h2]
theorem pushQ {f : Addr} {fd : FuncData} (F : FnOk P w K mg base (L2.CX P w) 5 f fd ["self", "number", "queue", "ranks"] (spPush K C CS U)) : FnOk P w K mg base CX0 5 f fd ["self", "number", "queue", "ranks"] (spPushQ K C CS) := by
  refine fn_quiet F fun vs H Q E h => ?_
  obtain ⟨a, ta, la, sd, S, Ls, T, L, kv, n, i, p, z, rs, rfl, st, hht, hab, n0, n1, hp, hz, hl, hrk, hsz, hkv, q⟩ := h
  have hA : absentB kv (some n) = true := by
    unfold absentB
    rw [below_pack n0 n1]
    show (true && !(valV kv (Sum.inl n : Key)).isSome) = true
    rw [hab]
    rfl
  have hpl := ht_path (List.mem_of_getElem? hp)
  refine ⟨a, ta, la, sd, S, Ls, T, L, kv, _, _, _, _, _, _, rfl, st, hht, (show NumV K H _ (some _) from rfl), (show NumV K H _ (some _) from rfl), hz, (fun ds e => ?_), hsz, hkv, (fun y => ?_), (fun _ y => ?_), (fun _ i' p' e hp' y => ?_), fun _ n' i' p' rs' e e2 hp' e3 hl' hrk' H' g st' => ?_⟩
  · injection e with e
    rw [← e, List.length_map, hl]
    omega
  · rw [hA] at y
    exact nomatch y
  · have hi := (List.getElem?_eq_some_iff.mp hp).1
    rw [show (lv T).length = T.lf from rfl] at hi
    have y2 : (decide ((0 : Int) ≤ (i : Nat)) && decide (((i : Nat) : Int) < (T.lf : Nat))) = false := y
    rw [decide_eq_true (by omega), decide_eq_true (by omega)] at y2
    have y := y2
    exact nomatch y
  · have e2 : i' = i := by
      injection e with e
      omega
    subst e2
    rw [lv_inj hp' hp, fit_ok hl hrk] at y
    exact nomatch y
  · obtain rfl := Option.some.inj e
    have e4 : i' = i := by
      injection e2 with e2
      omega
    subst e4
    obtain rfl := lv_inj hp' hp
    injection e3 with e3
    obtain rfl := map_ints_inj e3
    exact q H' g st'
theorem madeQ {f : Addr} {fd : FuncData} (F : FnOk P w K mg base (L2.CX P w) 24 f fd ["self", "form"] (spMade K C CS U)) : FnOk P w K mg base CX0 24 f fd ["self", "form"] (spMadeQ K C CS) := by
  refine fn_quiet F fun vs H Q E h => ?_
  obtain ⟨a, dx, v, t, rfl, ha, hv, hs, g, h1, h2, q⟩ := h
  refine ⟨a, dx, v, t, rfl, ha, hv, hs, (fun g' => ?_), fun g' => ?_⟩
  · exact ⟨h1, h2, q⟩
  · rw [g] at g'
    exact nomatch g'
theorem twinQ {f : Addr} {fd : FuncData} (F : FnOk P w K mg base (L2.CX P w) 27 f fd ["self"] (spTwin K C CS)) : FnOk P w K mg base CX0 27 f fd ["self"] (spTwin K C CS) := fn_quiet F fun vs H Q E h => h
end
end K26
set_option Elab.async false
set_option linter.all false
set_option maxRecDepth 100000
set_option maxHeartbeats 8000000
namespace K26
open PySem PySem.Spec PyProof.Rows L2 Dt
/-! ### the law's tree and bags beside the standing -/
theorem cutL_le (p q : Ad) (L : Lns) : (cutL p L q).length ≤ (L q).length := by
  unfold cutL
  by_cases h : q <+: p
  · rw [if_pos h, List.length_tail]
    omega
  · rw [if_neg h]
    exact Nat.le_refl _
theorem pshL_le (p q : Ad) (rs : List (List Int)) (n : Int) (L : Lns) : (pshL p rs n L q).length ≤ (L q).length + 1 := by
  unfold pshL
  by_cases h : q <+: p
  · rw [if_pos h, (insE_perm _ _).length_eq]
    exact Nat.le_refl _
  · rw [if_neg h]
    omega
structure J (K : PySem.W.Frag) (C CS : Addr) (S : List Addr) (H : Hp) (tr bg : Addr) (Bs : List Addr) (a ta la sd : Addr) (Ls : List Addr) (T : Dt) (B : Bgs) (L : Lns) (kv : List (Key × V)) (now : Int) (m : Nat) : Prop where
  lt : LawT K (offS S H) tr T
  bg : BgE K S H bg Bs T B
  st : StE K C CS S H a ta la sd Ls T L kv
  re : Rel T B L now
  con : Con T L
  se : Seat T L kv
  gd : T.good 1 = true
  ht : T.ht ≤ 11
  nd : T.nodes ≤ 20
  sm : T.size ≤ 100000
  sz : ∀ q, (L q).length ≤ m
  bz : ∀ q, (B q).length ≤ m
  nm : ∀ p ∈ lv T, ∀ n ∈ its (L p), 0 ≤ n ∧ n < packB
  dj : ∀ y ∈ Bs, y ∉ sd :: Ls
  m9 : m ≤ 100
theorem noL_en : ∀ l : List En, noLs (l.map enD) = true
  | [] => by unfold noLs; rfl
  | e :: l => by
    rw [List.map_cons]
    unfold noLs
    rw [noL_en l, Bool.and_true]
    unfold enD
    unfold noL
    unfold noLs
    rw [Bool.and_eq_true]
    refine ⟨?_, ?_⟩
    · unfold intsD
      unfold noL
      exact noL_ints _
    · unfold noLs
      unfold noL
      unfold noLs
      rfl
section
variable {K : PySem.W.Frag} {C CS : Addr} {S : List Addr} {H H' : Hp} {tr bg : Addr} {Bs : List Addr} {a ta la sd : Addr} {Ls : List Addr} {T : Dt} {B : Bgs} {L : Lns} {kv : List (Key × V)} {now : Int} {m : Nat}
theorem J.ht20 (j : J K C CS S H tr bg Bs a ta la sd Ls T B L kv now m) : T.ht < 20 := by have := j.ht; omega
theorem J.sz' (j : J K C CS S H tr bg Bs a ta la sd Ls T B L kv now m) : ∀ q, (L q).length ≤ 100000 := fun q => by have := j.sz q; have := j.m9; omega
theorem J.bz' (j : J K C CS S H tr bg Bs a ta la sd Ls T B L kv now m) : ∀ q, (B q).length ≤ 1000 := fun q => by have := j.bz q; have := j.m9; omega
theorem J.bz2 (j : J K C CS S H tr bg Bs a ta la sd Ls T B L kv now m) : ∀ q, (B q).length ≤ 100000 := fun q => by have := j.bz q; have := j.m9; omega
theorem J.nd' (j : J K C CS S H tr bg Bs a ta la sd Ls T B L kv now m) : T.nodes ≤ 1000 := by have := j.nd; omega
theorem J.nd2 (j : J K C CS S H tr bg Bs a ta la sd Ls T B L kv now m) : T.nodes ≤ 100 := by have := j.nd; omega
theorem J.ok (j : J K C CS S H tr bg Bs a ta la sd Ls T B L kv now m) : LnsOK T L kv := ⟨j.st.rk, j.st.pw, j.se, fun q => by have := j.sz q; have := j.m9; omega, j.gd, j.ht20, j.sm⟩
theorem J.keep {M : List Addr} (j : J K C CS S H tr bg Bs a ta la sd Ls T B L kv now m) (g : GoS M H H') (h : ∀ y ∈ M, y ∈ S) (n : ∀ y ∈ M, y ∉ Bs) (n2 : ∀ y ∈ M, y ∉ sd :: Ls) : J K C CS S H' tr bg Bs a ta la sd Ls T B L kv now m :=
  ⟨j.lt.mem (g.wide h).s, j.bg.keep g h n, j.st.keep g h n2, j.re, j.con, j.se, j.gd, j.ht, j.nd, j.sm, j.sz, j.bz, j.nm, j.dj, j.m9⟩
theorem J.same (j : J K C CS S H tr bg Bs a ta la sd Ls T B L kv now m) (e : Same H H') : J K C CS S H' tr bg Bs a ta la sd Ls T B L kv now m :=
  j.keep (M := []) (GoS.of e) (fun y h => nomatch h) (fun y h => nomatch h) (fun y h => nomatch h)
theorem J.cut (j : J K C CS S H tr bg Bs a ta la sd Ls T B L kv now m) {n : Int} {p : Ad} {rs : List (List Int)} {B' : Bgs} (d : Dep T L n p rs) (g : GoS (Bs ++ (sd :: Ls)) H H') (b : BgE K S H' bg Bs T B') (bl : ∀ q, (B' q).length ≤ (B q).length) (r : Rel T B' (cutL p L) now) (s : StE K C CS S H' a ta la sd Ls T (cutL p L) (dropK kv (Sum.inl n : Key))) : J K C CS S H' tr bg Bs a ta la sd Ls T B' (cutL p L) (dropK kv (Sum.inl n : Key)) now m := by
  refine ⟨j.lt.mem (g.wide fun y hy => (List.mem_append.mp hy).elim (j.bg.sub y) (j.st.sub y)).s, b, s, r, dep_con j.con d, j.se.cut d, j.gd, j.ht, j.nd, j.sm, fun q => Nat.le_trans (cutL_le p q L) (j.sz q), fun q => Nat.le_trans (bl q) (j.bz q), fun q hq x hx => j.nm q hq x ?_, j.dj, j.m9⟩
  have hp := dep_lv d
  by_cases e : q = p
  · subst e
    rw [cutL_self] at hx
    unfold its at hx ⊢
    obtain ⟨e, he, rfl⟩ := List.mem_map.mp hx
    exact List.mem_map_of_mem (List.mem_of_mem_tail he)
  · rw [cutL_leaf hp hq e] at hx
    exact hx
theorem J.psh (j : J K C CS S H tr bg Bs a ta la sd Ls T B L kv now m) {n : Int} {i : Nat} {p : Ad} {rs : List (List Int)} (hp : (lv T)[i]? = some p) (hn : valV kv (Sum.inl n : Key) = none) (n0 : 0 ≤ n) (n1 : n < packB) (hm : m + 1 ≤ 100) (g : GoS (Bs ++ (sd :: Ls)) H H') (b : BgE K S H' bg Bs T (pshB p rs now n B))
    (s : StE K C CS S H' a ta la sd Ls T (pshL p rs n L) (putK kv (Sum.inl n : Key) (.int (i : Nat)))) : J K C CS S H' tr bg Bs a ta la sd Ls T (pshB p rs now n B) (pshL p rs n L) (putK kv (Sum.inl n : Key) (.int (i : Nat))) (now + 1) (m + 1) := by
  have hpv := List.mem_of_getElem? hp
  obtain ⟨w, hw, hw0⟩ := lv_lf hpv
  refine ⟨j.lt.mem (g.wide fun y hy => (List.mem_append.mp hy).elim (j.bg.sub y) (j.st.sub y)).s, b, s, j.re.psh p rs n, pshL_con j.con hw hw0, j.se.psh rs hp hn, j.gd, j.ht, j.nd, j.sm, fun q => Nat.le_trans (pshL_le p q rs n L) (Nat.succ_le_succ (j.sz q)), fun q => Nat.le_trans (pshB_len p rs now n B q) (Nat.succ_le_succ (j.bz q)), fun q hq x hx => ?_, j.dj, hm⟩
  by_cases e : q = p
  · subst e
    rcases List.mem_cons.mp ((pshL_self q rs n L).mem_iff.mp hx) with h | h
    · rw [h]
      exact ⟨n0, n1⟩
    · exact j.nm q hq x h
  · rw [pshL_leaf hpv hq e] at hx
    exact j.nm q hq x hx
/-- a number that lies in no line is in no queue -/
theorem J.absent (j : J K C CS S H tr bg Bs a ta la sd Ls T B L kv now m) {n : Int} (h : ∀ p ∈ lv T, n ∉ its (L p)) : valV kv (Sum.inl n : Key) = none := by
  cases e : valV kv (Sum.inl n : Key) with
  | none => rfl
  | some v =>
    obtain ⟨n', i, p, z1, z2, z3, z4⟩ := j.se.fr _ _ e
    injection z1 with z1
    subst z1
    exact absurd z4 (h p (List.mem_of_getElem? z3))
/-- changed in new places alone -/
theorem same_goN {M : List Addr} {H1 H2 : Hp} (s : Same H H1) (g : GoS M H1 H2) (h : ∀ y ∈ M, H y = none) : Same H H2 := fun y o e => g.at (s y o e) fun z => by
  rw [h y z] at e
  exact nomatch e
theorem Rn.goN {tp ca : Addr} {M : List Addr} {H1 H2 : Hp} (r : Rn K tp ca H H1) (g : GoS M H1 H2) (h : ∀ y ∈ M, H y = none) : Rn K tp ca H H2 := by
  have ntp : tp ∉ M := fun z => by
    obtain ⟨u, hu⟩ := r.a.some
    rw [h _ z] at hu
    exact nomatch hu
  have nca : ca ∉ M := fun z => by
    obtain ⟨u, hu⟩ := r.a.someC
    rw [h _ z] at hu
    exact nomatch hu
  refine ⟨r.a, ?_, fun y o e => ?_⟩
  · obtain ⟨cs, i, b, s, h1, h2, h3, h4⟩ := r.b
    exact ⟨cs, i, b, s, h1, g.at h2 ntp, g.at h3 nca, h4⟩
  · by_cases z : y = tp
    · rw [z, del_same] at e
      exact nomatch e
    · have e1 := r.g y o e
      rw [del_ne z] at e e1 ⊢
      exact g.at e1 fun y' => by
        rw [h y y'] at e
        exact nomatch e
/-- a made standing, seen beside lists that were there before -/
theorem StE.beside {M : List Addr} {H0 : Hp} (s : StE K C CS (sd :: Ls) H' a ta la sd Ls T L kv) (t : TN K H0 (offS (sd :: Ls) H') C ta T ∧ H0 la = none) (hM : ∀ y ∈ M, H0 y ≠ none) (hM' : ∀ y ∈ M, ∃ xs, H' y = some (.lst xs)) : StE K C CS ((sd :: Ls) ++ M) H' a ta la sd Ls T L kv := by
  have off : ∀ {y o}, offS (sd :: Ls) H' y = some o → (∀ xs, o ≠ .lst xs) → offS ((sd :: Ls) ++ M) H' y = some o := fun {y o} h n => by
    obtain ⟨h1, h2⟩ := offS_some h
    rw [offS_ne (fun z => ?_)]
    · exact h2
    · rcases List.mem_append.mp z with z | z
      · exact h1 z
      · obtain ⟨xs, hx⟩ := hM' y z
        rw [h2] at hx
        exact n xs (Option.some.inj hx)
  have off2 : ∀ {y o}, offS (sd :: Ls) H' y = some o → H0 y = none → offS ((sd :: Ls) ++ M) H' y = some o := fun {y o} h n => by
    obtain ⟨h1, h2⟩ := offS_some h
    rw [offS_ne (fun z => ?_)]
    · exact h2
    · rcases List.mem_append.mp z with z | z
      · exact h1 z
      · exact hM y z n
  have kt : KeepT (offS (sd :: Ls) H') (offS ((sd :: Ls) ++ M) H') := fun y ys => ⟨fun h => off h (fun xs z => nomatch z), fun o h => off h (fun xs z => nomatch z)⟩
  obtain ⟨dx, ob⟩ := s.ob
  obtain ⟨⟨dx', fv, LL, SS, h1, h2, h3, h4, h5⟩, hla⟩ := t
  refine ⟨fun y hy => List.mem_append_left _ hy, fun y hy => ?_, s.nd, ⟨dx, off ob (fun xs z => nomatch z)⟩, ⟨dx', fv, LL, SS, ⟨off h1.ob (fun xs z => nomatch z), fun i hi => off2 (h1.ls i hi) (h5 i hi), h1.inj⟩, fun i hi => Paired.mono (fun v q c => Cell.keep kt i v q c) (h2 i hi), h3.keep kt, h4⟩, off2 s.ln hla, s.len, fun q hq => ?_, s.se, s.rk, s.pw⟩
  · rcases List.mem_append.mp hy with hy | hy
    · exact s.al y hy
    · obtain ⟨xs, hx⟩ := hM' y hy
      rw [hx]
      exact fun z => nomatch z
  · obtain ⟨l, xs, z1, z2, z3⟩ := s.li q hq
    exact ⟨l, xs, z1, z2, dps_keep kt z3 (noL_en _)⟩
end
end K26
set_option Elab.async false
set_option linter.all false
set_option maxRecDepth 100000
set_option maxHeartbeats 8000000
namespace K26
open PySem PySem.Spec PyProof.Rows L2 Dt
/-! ### _law_departed -/
theorem dep_ne {u : Dt} {L : Lns} {n : Int} {p : Ad} {rs : List (List Int)} (d : Dep u L n p rs) : L [] ≠ [] := fun z => by
  cases p with
  | nil =>
    obtain ⟨r, t, h, _⟩ := d.la
    rw [z] at h
    exact nomatch h
  | cons j p =>
    obtain ⟨r, t, h, _⟩ := d.hd 0 j rfl
    rw [List.take_zero, z] at h
    exact nomatch h
theorem dep_rk {u : Dt} {L : Lns} {n : Int} {p : Ad} {rs : List (List Int)} (d : Dep u L n p rs) (h : ∀ q, RkOK (L q)) : ∀ r ∈ rs, rankOf (intsD r) = true := fun r hr => by
  obtain ⟨k, hk⟩ := List.mem_iff_getElem?.mp hr
  have hkl := (List.getElem?_eq_some_iff.mp hk).1
  rw [d.len] at hkl
  by_cases c : k < p.length
  · obtain ⟨r', t, e1, e2⟩ := d.hd k _ (List.getElem?_eq_getElem c)
    rw [hk] at e2
    obtain rfl := Option.some.inj e2
    exact h _ (r, _) (by rw [e1]; exact List.mem_cons_self ..)
  · obtain rfl : k = p.length := by omega
    obtain ⟨r', t, e1, e2⟩ := d.la
    rw [hk] at e2
    obtain rfl := Option.some.inj e2
    exact h _ (r, n) (by rw [e1]; exact List.mem_cons_self ..)
theorem rank_len {r : List Int} (h : rankOf (intsD r) = true) : r.length ≤ 8 := by
  have h1 : (decide ((r.map PyData.int).length ≤ 8) && (r.map PyData.int).all partB) = true := h
  rw [Bool.and_eq_true] at h1
  have := of_decide_eq_true h1.1
  rwa [List.length_map] at this
theorem pl_ints (n : Nat) {l : List Int} (h : l.length ≤ 1000000) : plainT (n + 2) (intsD l) := ⟨by rw [List.length_map]; exact h, fun d hd => by
  obtain ⟨i, _, rfl⟩ := List.mem_map.mp hd
  trivial⟩
theorem pl_dep {n : Int} {i : Nat} {rs : List (List Int)} (h : rs.length ≤ 1000000) (g : ∀ r ∈ rs, rankOf (intsD r) = true) : plainT 20 (depD n i rs) := by
  refine ⟨(by show 3 ≤ 1000000; decide), fun d hd => ?_⟩
  rcases List.mem_cons.mp hd with rfl | hd
  · trivial
  rcases List.mem_cons.mp hd with rfl | hd
  · trivial
  rcases List.mem_cons.mp hd with rfl | hd
  · refine ⟨by rw [List.length_map]; exact h, fun d hd => ?_⟩
    obtain ⟨r, hr, rfl⟩ := List.mem_map.mp hd
    exact pl_ints 16 (by have := rank_len (g r hr); omega)
  · exact nomatch hd
theorem pl_lines {T : Dt} {L : Lns} (h : T.nodes ≤ 1000) (g : ∀ q, (L q).length ≤ 1000) (k : ∀ q, RkOK (L q)) : plainT 20 (linesD T L) := by
  refine ⟨by rw [List.length_map, ad_len]; omega, fun d hd => ?_⟩
  obtain ⟨q, _, rfl⟩ := List.mem_map.mp hd
  refine ⟨by rw [List.length_map]; have := g q; omega, fun d hd => ?_⟩
  obtain ⟨e, he, rfl⟩ := List.mem_map.mp hd
  refine ⟨(by show 2 ≤ 1000000; decide), fun d hd => ?_⟩
  rcases List.mem_cons.mp hd with rfl | hd
  · exact pl_ints 15 (by have := rank_len (k q e he); omega)
  rcases List.mem_cons.mp hd with rfl | hd
  · trivial
  · exact nomatch hd
theorem noL_tups {α : Type} (f : α → List PyData) (h : ∀ x, noLs (f x) = true) : ∀ l : List α, noLs (l.map fun x => .tuple (f x)) = true
  | [] => by unfold noLs; rfl
  | y1 :: l => by
    rw [List.map_cons]
    unfold noLs
    rw [noL_tups f h l, Bool.and_true]
    unfold noL
    exact h y1
theorem noL_lines (T : Dt) (L : Lns) : noL (linesD T L) = true := by
  unfold linesD
  unfold noL
  exact noL_tups (fun q => (L q).map enD) (fun q => noL_en _) _
theorem keepT_of {H H' : Hp} (h : ∀ y o, H y = some o → (∀ xs, o ≠ .lst xs) → H' y = some o) : KeepT H H' := fun y ys => ⟨fun e => h y _ e (fun xs z => nomatch z), fun o e => h y _ e (fun xs z => nomatch z)⟩
theorem dps_intT {K : PySem.W.Frag} {H : Hp} : ∀ ns : List Int, DpAll K H (ns.map V.int) (ns.map PyData.int)
  | [] => .nil
  | i :: ns => .cons (.int i) (dps_intT ns)
theorem dp_intT {K : PySem.W.Frag} {H : Hp} {y : Addr} {ns : List Int} (h : SqT K H y (ns.map V.int)) : Dp K H (.ref y) (intsD ns) := .tup h (dps_intT ns)
/-- who departs is settled -/
theorem dep_det : ∀ (p p2 : Ad) (u : Dt) (L : Lns) (n n2 : Int) (rs rs2 : List (List Int)), Dep u L n p rs → Dep u L n2 p2 rs2 → n = n2 ∧ p = p2 ∧ rs = rs2 := by
  intro p
  induction p with
  | nil =>
    intro p2 u L n n2 rs rs2 d d2
    obtain ⟨w1, e1, l1⟩ := d.lf
    rw [sub_nil] at e1
    obtain rfl := Option.some.inj e1
    cases p2 with
    | nil =>
      obtain ⟨r, t, h1, h2⟩ := d.la
      obtain ⟨r2, t2, h3, h4⟩ := d2.la
      rw [h1] at h3
      injection h3 with h3 _
      injection h3 with h3 h5
      refine ⟨h5, rfl, ?_⟩
      have k1 := d.len
      have k2 := d2.len
      match rs, rs2, k1, k2, h2, h4 with
      | [a1], [a2], _, _, h2, h4 =>
        have h2' : a1 = r := Option.some.inj h2
        have h4' : a2 = r2 := Option.some.inj h4
        rw [h2', h4', h3]
    | cons j p2 =>
      obtain ⟨w2, e2, _⟩ := d2.lf
      obtain ⟨k, hk, _⟩ := sub_len e2
      have := kid_lt hk
      omega
  | cons j p ih =>
    intro p2 u L n n2 rs rs2 d d2
    obtain ⟨w1, e1, l1⟩ := d.lf
    obtain ⟨k, hk, _⟩ := sub_len e1
    have hj := kid_lt hk
    cases p2 with
    | nil =>
      obtain ⟨w2, e2, l2⟩ := d2.lf
      rw [sub_nil] at e2
      obtain rfl := Option.some.inj e2
      omega
    | cons j2 p2 =>
      obtain ⟨r, t, h1, h2⟩ := d.hd 0 j rfl
      obtain ⟨r2, t2, h3, h4⟩ := d2.hd 0 j2 rfl
      rw [List.take_zero] at h1 h3
      rw [h1] at h3
      injection h3 with h3 _
      injection h3 with h3 h5
      have ej : j = j2 := by omega
      subst ej
      match rs, rs2, h2, h4 with
      | a1 :: rs, a2 :: rs2, h2, h4 =>
        have h2' : a1 = r := Option.some.inj h2
        have h4' : a2 = r2 := Option.some.inj h4
        obtain ⟨z1, z2, z3⟩ := ih p2 k (sh j L) n n2 rs rs2 (d.kid hk) (d2.kid hk)
        exact ⟨z1, by rw [z2], by rw [h2', h4', h3, z3]⟩
      | [], _, h2, _ => exact nomatch h2
      | _ :: _, [], _, h4 => exact nomatch h4
def spDeparted (K : PySem.W.Frag) (C CS : Addr) : Sp := fun vs H Q _ => ∃ (tr bg a ta la sd : Addr) (S Bs Ls : List Addr) (T : Dt) (B : Bgs) (L : Lns) (kv : List (Key × V)) (now : Int) (m : Nat), vs = [.ref tr, .ref bg, .ref a] ∧ J K C CS S H tr bg Bs a ta la sd Ls T B L kv now m ∧ ∀ H', Same H H' → Q (.bl true) H'
section
variable {P : Program} {w : World} {K : PySem.W.Frag} {mg : Str → Option Value} {base : Heap} {C CS U : Addr}
theorem ok_departed (D : DefAt K mg "_law_departed" s_law_departed ["tree", "bags", "standing"]) (T0 : Txt K mg) (SC : StCl K CS) (GRow : CalX P w K mg base CX0 2 "_law_row" ["tree", "bags", "start"] (spRow K)) (GTake : CalX P w K mg base CX0 1 "_law_take" ["tree", "bags", "start"] (spTake K)) (GSame : CalX P w K mg base CX0 20 "_law_same" ["one", "other"] (spSame K 20)) (GOrderOf : CalX P w K mg base CX0 21 "order_of" ["standing", "node"] (spOrdQ K C CS))
    (MAl : MQ P w K mg base CS 1 "all_lines" ["self"] (spAllL K C CS)) (MTw : MQ P w K mg base CS 27 "twin" ["self"] (spTwin K C CS)) (MDe : MQ P w K mg base CS 5 "depart" ["self"] (spDepart K C CS)) (MOr : MQ P w K mg base CS 21 "order" ["self"] (spOrder K C CS)) :
    CalX P w K mg base CX0 28 "_law_departed" ["tree", "bags", "standing"] (spDeparted K C CS) := by
  refine D.ok sc_law_departed (fun vs H Q E h => ?_) (fun f cdv A outer s H vs Q E hr h => ?_)
  · obtain ⟨tr, bg, a, ta, la, sd, S, Bs, Ls, T, B, L, kv, now, m, rfl, _⟩ := h
    rfl
  obtain ⟨tr, bg, a, ta, la, sd, S, Bs, Ls, T, B, L, kv, now, m, rfl, j, q⟩ := h
  refine ⟨_, (pss_cons (ps_set (i := 3) sc_law_departed.nd rfl (.inl rfl) (pe_c0 GRow hr (by decide) rfl (pa_cons (pv 0) (pa_cons (pv 1) (pa_cons pe_int pa_nil))))) 
    (pss_cons (ps_setLc (i := 5) (own := [("bag", 4)]) (g := gName 4) (tt := tYes) (by rfl) sc_law_departed.nd rfl (by rfl) (sw_true rfl rfl rfl (by decide +kernel)) (pi_list (pv 1)) (blkOk_by (own := [("bag", 4)]) (N := N_law_departed) (sc := defScope s_law_departed) (by decide +kernel)) (fun _ _ _ _ _ => pg_name (i := 4) sc_law_departed.nd rfl (Or.inl rfl)) (fun _ _ _ _ _ => pts_nil) (fun _ _ _ _ _ => by exact (pe_callTy (call_list_ofK (K := K) (by exact rfl)) (by rfl) T0.list (by decide +kernel) (pa_cons (pv 4) pa_nil)))) 
    (pss_cons (ps_set (i := 6) sc_law_departed.nd rfl (.inl rfl) (pe_m0 (pv 2) SC.cl MAl hr (by decide))) 
    (pss_cons (ps_set (i := 7) sc_law_departed.nd rfl (.inl rfl) (pe_m0 (pv 2) SC.cl MTw hr (by decide))) 
    (pss_cons (ps_for PassesOwn.never rfl (pi_range1 (by rfl) T0.range (pa_cons (pe_callB call_len_seq (by rfl) T0.len PySem.boot_len (pa_cons (pv 3) pa_nil)) pa_nil)) (pg_name (i := 8) sc_law_departed.nd rfl (Or.inl rfl)) 
      (pss_cons (ps_set (i := 9) sc_law_departed.nd rfl (.inl rfl) (pe_c0 GTake hr (by decide) rfl (pa_cons (pv 0) (pa_cons (pv 5) (pa_cons pe_int pa_nil))))) 
      (pss_cons (ps_if (PW.pt (pw_or (pt_not (pt_val (pe_c0 GSame hr (by decide) rfl (pa_cons (pe_m0 (pv 7) SC.cl MDe hr (by decide)) (pa_cons (pv 9) pa_nil))))) (pw_or1 (pt_cmpR op_ne (pe_ix ix_tup (pv 9) pe_int (fun _ _ => rfl)) (pe_ix ix_tup (pv 3) (pv 8) (fun _ _ => rfl)) (nomark _))))) 
        (pss_one (ps_ret pe_bl)) pss_nil) 
      (pss_one (ps_if (PW.pt (pw_and (PW.pt (pw_or (pt_cmpR op_lt (pv 8) pe_int (nomark _)) (pw_or1 (pt_cmpR op_eq (pe_op op_mod (pv 8) pe_int) pe_int (nomark _))))) (pw_and1 (pt_not (pt_val (pe_c0 GSame hr (by decide) rfl (pa_cons (pe_c0 GOrderOf hr (by decide) rfl (pa_cons (pv 7) (pa_cons pe_int pa_nil))) (pa_cons (pe_slice sl_tupA (pv 3) (po_some (pe_op op_add (pv 8) pe_int)) po_none) pa_nil)))))))) 
        (pss_one (ps_ret pe_bl)) pss_nil))))) 
    (pss_cons (ps_if (PW.pt (pw_or (pt_cmpR op_notN (pe_m0 (pv 7) SC.cl MDe hr (by decide)) pe_non (nomark _)) (pw_or1 (pt_not (pt_val (pe_c0 GSame hr (by decide) rfl (pa_cons (pe_m0 (pv 7) SC.cl MOr hr (by decide)) (pa_cons (pe_tup pa_nil) pa_nil)))))))) 
      (pss_one (ps_ret pe_bl)) pss_nil) 
    (pss_one (ps_ret (pe_and (pe_c0 GSame hr (by decide) rfl (pa_cons (pe_m0 (pv 2) SC.cl MOr hr (by decide)) (pa_cons (pv 3) pa_nil))) (pe_one (pe_c0 GSame hr (by decide) rfl (pa_cons (pe_m0 (pv 2) SC.cl MAl hr (by decide)) (pa_cons (pv 6) pa_nil))))))))))))), ?_⟩
  have s0 : sub T [] = some T := sub_nil T
  refine ⟨_, rfl, _, rfl, tr, bg, S, Bs, T, T, B, L, now, [], (by rw [idx_nil]; rfl), j.lt, j.bg, j.re, sub_nil T, j.con, j.ht20, j.nd', j.bz', fun H1 r s1 hr0 hr1' => ?_⟩
  have hr1 : H1 r = some (.tup ((ord T L).map V.int)) := hr1'
  have j1 := j.same s1
  have hB := j1.bg
  have hln := (offS_some hB.ln).2
  refine ⟨_, rfl, bg, rfl, ⟨_, SqL.of hln⟩, fun Dl hDl => ?_⟩
  refine lc_list (K := K) (a := bg) (xs := Bs.map V.ref) (fun j H' => Same H1 H' ∧ ∃ Ms : List Addr, H' Dl = some (.lst (Ms.map V.ref)) ∧ Ms.length = j ∧ (∀ (i : Nat) (m : Addr), Ms[i]? = some m → ∃ l xs, Bs[i]? = some l ∧ H1 l = some (.lst xs) ∧ H' m = some (.lst xs) ∧ H1 m = none) ∧ (Dl :: Ms).Nodup) ⟨same_new hDl, [], upd_same, rfl, (fun i m z => by simp at z), by simp⟩ (fun j H' _ hh => SqL.of (hh.1 _ _ hln)) ?_ ?_
  · rintro j' x H' hj ⟨sm, Ms, hD, hl, hM, hnd⟩
    rw [List.getElem?_map] at hj
    obtain ⟨l, hlj, rfl⟩ := Option.map_eq_some_iff.mp hj
    have hjl := (List.getElem?_eq_some_iff.mp hlj).1
    have hjl2 := hjl
    rw [hB.len, ← ad_len] at hjl
    obtain ⟨l', xs, g1, g2, g3⟩ := hB.li _ (List.getElem_mem hjl)
    rw [idx_of (List.getElem?_eq_getElem hjl), hlj] at g1
    obtain rfl := Option.some.inj g1
    refine ⟨rfl, _, rfl, l, _, rfl, .inl (SqL.of (sm _ _ g2)), fun p hp => ?_⟩
    have npD : p ≠ Dl := fun e => by
      rw [e, hD] at hp
      exact nomatch hp
    obtain ⟨nd1, nd2⟩ := List.nodup_cons.mp hnd
    have npM : p ∉ Ms := fun z => by
      obtain ⟨i, hi⟩ := List.mem_iff_getElem?.mp z
      obtain ⟨_, xs', _, _, z2, _⟩ := hM i p hi
      rw [z2] at hp
      exact nomatch hp
    have hTn := ad_len T
    have hno := j.nd
    refine ⟨Ms.map V.ref, (same_new hp) _ _ hD, small1000 (by rw [List.length_map]; omega), same_mut (sm.trans (same_new hp)) hDl, Ms ++ [p], by rw [upd_same, List.map_append]; rfl, by rw [List.length_append]; show Ms.length + 1 = j' + 1; omega, fun i m hm => ?_, ?_⟩
    · by_cases cc : i < Ms.length
      · rw [List.getElem?_append_left cc] at hm
        obtain ⟨l2, xs2, z1, z2, z3, z4⟩ := hM i m hm
        refine ⟨l2, xs2, z1, z2, ?_, z4⟩
        rw [upd_ne (fun e => nd1 (by rw [← e]; exact List.mem_of_getElem? hm))]
        exact (same_new hp) _ _ z3
      · have hi := (List.getElem?_eq_some_iff.mp hm).1
        rw [List.length_append] at hi
        have hi2 : i < Ms.length + 1 := hi
        obtain rfl : i = Ms.length := by omega
        rw [List.getElem?_append_right (Nat.le_refl _), Nat.sub_self] at hm
        obtain rfl := Option.some.inj hm
        refine ⟨l, xs, by rw [hl]; exact hlj, g2, ?_, sm.free hp⟩
        rw [upd_ne npD]
        exact upd_same
    · refine List.nodup_cons.mpr ⟨fun z => ?_, List.nodup_append.mpr ⟨nd2, by simp, fun x hx y hy e => ?_⟩⟩
      · rcases List.mem_append.mp z with z | z
        · exact nd1 z
        · exact npD (List.mem_singleton.mp z).symm
      · rw [List.mem_singleton.mp hy] at e
        exact npM (e ▸ hx)
  rintro H2 ⟨s2, Ms, hD, hMl, hM, hnd⟩
  rw [List.length_map] at hMl
  have hMn : ∀ m ∈ Ms, H1 m = none := fun m hm => by
    obtain ⟨i, hi⟩ := List.mem_iff_getElem?.mp hm
    obtain ⟨_, _, _, _, _, z⟩ := hM i m hi
    exact z
  have hMx : ∀ m ∈ Ms, ∃ xs, H2 m = some (.lst xs) := fun m hm => by
    obtain ⟨i, hi⟩ := List.mem_iff_getElem?.mp hm
    obtain ⟨_, xs, _, _, z, _⟩ := hM i m hi
    exact ⟨xs, z⟩
  have C2 := bags_copy (H1 := H2) hB s2 hDl hD hMl hM hnd
  have j2 := j1.same s2
  obtain ⟨dx2, ob2⟩ := j2.st.obj
  refine ⟨_, rfl, a, dx2, _, rfl, ob2, rfl, a, ta, la, sd, S, Ls, T, L, kv, rfl, j2.st, fun H3 lp s3 hl3 hdp => ?_⟩
  have j3 := j2.same s3
  obtain ⟨dx3, ob3⟩ := j3.st.obj
  refine ⟨_, rfl, a, dx3, _, rfl, ob3, rfl, a, ta, la, sd, S, Ls, T, L, kv, rfl, j3.st, j3.ok, fun H4 a' ta' la' sd' Ls' kv' s4 st4 se4 kl4 new4 ha4 tn4 => ?_⟩
  have hM3 : ∀ m ∈ Ms, ∃ xs, H3 m = some (.lst xs) := fun m hm => by
    obtain ⟨xs, z⟩ := hMx m hm
    exact ⟨xs, s3 _ _ z⟩
  have st4' := st4.beside (M := Ms) tn4 (fun y hy => by
    obtain ⟨xs, z⟩ := hM3 y hy
    rw [z]
    exact fun z => nomatch z) (fun y hy => by
    obtain ⟨xs, z⟩ := hM3 y hy
    exact ⟨xs, s4 _ _ z⟩)
  have s24 := s3.trans s4
  have s14 := s2.trans s24
  have new2 : ∀ y ∈ sd' :: Ls', H2 y = none := fun y hy => s3.free (new4 y hy)
  have C4 : BgE K ((sd' :: Ls') ++ Ms) H4 Dl Ms T B := (C2.grow (N := sd' :: Ls') s24 new2 (fun y hy => st4.al y hy)).shrink (fun y hy => by
    rcases List.mem_append.mp hy with z | z
    · exact List.mem_append_left _ z
    · exact List.mem_append_right _ (List.mem_append_left _ z)) (fun y hy => List.mem_append_right _ hy)
  have newM : ∀ y ∈ Ms ++ (sd' :: Ls'), H1 y = none := fun y hy => by
    rcases List.mem_append.mp hy with z | z
    · exact hMn y z
    · exact s2.free (new2 y z)
  have lt4 : LawT K (offS ((sd' :: Ls') ++ Ms) H4) tr T := j1.lt.same fun y o h => by
    obtain ⟨h1, h2⟩ := offS_some h
    rw [offS_ne (fun z => ?_)]
    · exact s14 _ _ h2
    · rw [newM y (by rcases List.mem_append.mp z with z | z; exact List.mem_append_right _ z; exact List.mem_append_left _ z)] at h2
      exact nomatch h2
  have J4 : J K C CS ((sd' :: Ls') ++ Ms) H4 tr Dl Ms a' ta' la' sd' Ls' T B L kv' now m := ⟨lt4, C4, st4', j.re, j.con, se4, j.gd, j.ht, j.nd, j.sm, j.sz, j.bz, j.nm, (fun y hy z => by
    obtain ⟨xs, e⟩ := hM3 y hy
    rw [new4 y z] at e
    exact nomatch e), j.m9⟩
  have hol : (ord T L).length ≤ 100 := by
    rw [ord_length]
    have := j.sz []
    have := j.m9
    omega
  have rowAt : ∀ {H'}, GoS (Ms ++ (sd' :: Ls')) H4 H' → H' r = some (.tup ((ord T L).map V.int)) := fun {H'} g => (same_goN s14 g newM) _ _ hr1
  refine ⟨_, rfl, r, _, rfl, .inr (SqT.of (s14 _ _ hr1)), ?_⟩
  rw [List.length_map]
  refine ⟨_, rfl, by omega, by omega, ?_⟩
  refine for_range (lo := 0) (n := (ord T L).length) (fun k σ H' => ∃ o4 o8 o9 kvk Bk Lk, σ = [some (.ref tr), some (.ref bg), some (.ref a), some (.ref r), o4, some (.ref Dl), some (.ref lp), some (.ref a'), o8, o9] ∧ GoS (Ms ++ (sd' :: Ls')) H4 H' ∧ J K C CS ((sd' :: Ls') ++ Ms) H' tr Dl Ms a' ta' la' sd' Ls' T Bk Lk kvk now m ∧ ord T Lk = (ord T L).drop k) ⟨_, _, _, kv', B, L, rfl, GoS.refl, J4, rfl⟩ ?_ ?_
  · rintro k σ H5 hk ⟨o4, o8, o9, kvk, Bk, Lk, rfl, g5, J5, ho5⟩
    rw [show (0 + (k : Int)) = ((k : Nat) : Int) from Int.zero_add _]
    have hne : Lk [] ≠ [] := fun z => by
      have e1 := ord_length T Lk
      rw [z, ho5, List.length_drop] at e1
      simp at e1
      omega
    refine ⟨_, rfl, _, rfl, tr, Dl, (sd' :: Ls') ++ Ms, Ms, T, T, Bk, Lk, now, [], (by rw [idx_nil]; rfl), J5.lt, J5.bg, J5.re, s0, J5.con, J5.ht20, J5.nd', J5.bz2, (fun z => absurd z hne), fun n p rs i B' d hi H6 v g6 B6 bl6 R6 hv6 hdp6 => ?_⟩
    rw [cutA_nil] at R6
    have d0 : Dep T Lk n p rs := d
    have hi0 : (lv T)[i]? = some p := hi
    have hdo := dep_ord p T Lk n rs J5.con d0
    have g6' : GoS (Ms ++ (sd' :: Ls')) H5 H6 := g6.wide fun y hy => List.mem_append_left _ hy
    have st6 := J5.st.keep g6 (fun y hy => List.mem_append_right _ hy) J5.dj
    obtain ⟨dx6, ob6⟩ := st6.obj
    refine ⟨_, rfl, a', dx6, _, rfl, ob6, rfl, a', ta', la', sd', (sd' :: Ls') ++ Ms, Ls', T, Lk, kvk, rfl, st6, J5.ht20, J5.con, J5.se, J5.sz', (fun z => absurd z hne), fun n2 p2 rs2 i2 d2 hi2 H7 v2 g7 st7 hv7 hdp7 => ?_⟩
    obtain ⟨rfl, rfl, rfl⟩ := dep_det p p2 T Lk n n2 rs rs2 d0 d2
    obtain rfl := lv_i hi0 hi2
    have g7' : GoS (Ms ++ (sd' :: Ls')) H6 H7 := g7.wide fun y hy => List.mem_append_right _ hy
    have g57 := g6'.trans g7'
    have subS : ∀ y ∈ Ms ++ (sd' :: Ls'), y ∈ (sd' :: Ls') ++ Ms := fun y hy => by
      rcases List.mem_append.mp hy with z | z
      · exact List.mem_append_right _ z
      · exact List.mem_append_left _ z
    have B7 := B6.keep g7 (fun y hy => List.mem_append_left _ hy) fun y hy z => J5.dj y z hy
    have J7 := J5.cut d0 g57 B7 bl6 R6 st7
    have hdv := dp_same offS_same (dp_same (g7.wide fun y hy => List.mem_append_left _ hy).s hdp6)
    have hrk := dep_rk d0 J5.st.rk
    have hrl : rs.length ≤ 1000000 := by
      have := d0.len
      have := ht_path (dep_lv d0)
      have := J5.ht
      omega
    refine ⟨_, rfl, .ref v2, .ref v, depD n i rs, rfl, dp_same offS_same hdp7, hdv, pl_dep hrl hrk, fun H8 s8 => ?_⟩
    refine ⟨true, rfl, ?_⟩
    refine iteF ?_
    have J8 := J7.same s8
    have g58 := g57.trans (GoS.of s8)
    have g8 := g5.trans g58
    have hnk : (ord T L)[k]? = some n := by
      rw [hdo] at ho5
      have := congrArg (fun l => l[0]?) ho5
      rw [List.getElem?_drop, Nat.add_zero] at this
      exact this.symm
    have ho8 : ord T (cutL p Lk) = (ord T L).drop (k + 1) := by
      rw [hdo] at ho5
      have := congrArg List.tail ho5
      rwa [List.tail_cons, List.tail_drop] at this
    have hv8 := dp_same s8 hdv
    have hr8 := rowAt g8
    cases hv8 with
    | @tup _ ys _ hs ha =>
    cases ha with
    | cons a1 ha =>
    cases a1
    refine ⟨_, rfl, v, _, 0, _, rfl, rfl, hs, (show atI (V.int n :: _) ((0 : Nat) : Int) = some (V.int n) from atI_nat rfl), _, rfl, _, rfl, r, _, _, _, rfl, rfl, SqT.of hr8, atI_nat (by rw [List.getElem?_map, hnk]; rfl), ?_⟩
    refine ⟨rfl, _, rfl, ?_⟩
    refine iteNS rfl ?_
    have fin : ∀ H', Same H8 H' → ∃ (z4 o8 o9 : Option V) (kvk : List (Key × V)) (Bk : Bgs) (Lk : Lns), ([some (.ref tr), some (.ref bg), some (.ref a), some (.ref r), o4, some (.ref Dl), some (.ref lp), some (.ref a'), some (.int (k : Nat)), some (.ref v)] : L2.St) = [some (.ref tr), some (.ref bg), some (.ref a), some (.ref r), z4, some (.ref Dl), some (.ref lp), some (.ref a'), o8, o9] ∧ GoS (Ms ++ (sd' :: Ls')) H4 H' ∧ J K C CS ((sd' :: Ls') ++ Ms) H' tr Dl Ms a' ta' la' sd' Ls' T Bk Lk kvk now m ∧ ord T Lk = (ord T L).drop (k + 1) := fun H' s9 => ⟨_, _, _, _, B', cutL p Lk, rfl, g8.trans (GoS.of s9), J8.same s9, ho8⟩
    obtain ⟨dx8, ob8⟩ := J8.st.obj
    have hx8 := fun {t : Prop} => @id t
    refine ⟨_, rfl, _, _, rfl, rfl, _, rfl, ite2 (fun c1 => iteT ?_) fun c1 => ⟨_, rfl, _, _, rfl, rfl, (by show (0 : Int) < 7; decide), rfl, _, rfl, ite2 (fun c2 => ?_) fun c2 => iteF (fin _ (fun y o h => h))⟩⟩
    all_goals
      refine ⟨_, rfl, a', ta', la', sd', (sd' :: Ls') ++ Ms, Ls', T, T, cutL p Lk, dropK kvk (Sum.inl n : Key), [], (by rw [idx_nil]; rfl), J8.st, J8.ht20, J8.con, J8.sz', s0, fun H9 p9 s9 hp9 hv9' => ?_⟩
      have hv9 : H9 p9 = some (.tup ((ord T (cutL p Lk)).map V.int)) := hv9'
      have hr9 := s9 _ _ hr8
      refine ⟨_, rfl, _, rfl, _, _, rfl, rfl, _, rfl, ?_⟩
      dsimp only [L2.tNoPart]
      refine rSlA_all (SqT.of hr9) fun tp H10 s10 htp => ?_
      have hcut : cutV ((ord T L).map V.int) (some ((k : Int) + 1)) none = ((ord T L).drop (k + 1)).map V.int := by
        rw [show ((k : Int) + 1) = ((k + 1 : Nat) : Int) from rfl, cut_drop, List.map_drop]
      rw [hcut, ← ho8] at htp
      refine ⟨.ref p9, .ref tp, intsD (ord T (cutL p Lk)), rfl, dp_intT (SqT.of (s10 _ _ hv9)), dp_intT htp, pl_ints 18 (by rw [ord_length]; have := J8.sz' []; omega), fun H11 s11 => ?_⟩
      exact ⟨true, rfl, iteF (fin _ (s9.trans (s10.trans s11)))⟩
  · rintro σ H5 ⟨o4, o8, o9, kvk, Bk, Lk, rfl, g5, J5, ho5⟩
    rw [List.drop_length] at ho5
    have hnil : Lk [] = [] := by
      have e1 := ord_length T Lk
      rw [ho5] at e1
      exact List.eq_nil_of_length_eq_zero e1.symm
    obtain ⟨dx5, ob5⟩ := J5.st.obj
    refine ⟨_, rfl, a', dx5, _, rfl, ob5, rfl, a', ta', la', sd', (sd' :: Ls') ++ Ms, Ls', T, Lk, kvk, rfl, J5.st, J5.ht20, J5.con, J5.se, J5.sz', (fun _ => ?_), fun n2 p2 rs2 i2 d2 _ => absurd hnil (dep_ne d2)⟩
    refine ⟨rfl, _, rfl, ?_⟩
    refine iteF ?_
    refine ⟨_, rfl, a', dx5, _, rfl, ob5, rfl, a', ta', la', sd', (sd' :: Ls') ++ Ms, Ls', T, Lk, kvk, rfl, J5.st, J5.ht20, J5.con, J5.sz', fun H6 p6 s6 hp6 hv6 => ?_⟩
    rw [ho5] at hv6
    refine ⟨(by show 0 ≤ sizeLine; decide), fun t6 ht6 => ?_⟩
    have s7 := same_new (o := .tup []) ht6
    refine ⟨.ref p6, .ref t6, intsD [], rfl, dp_intT (SqT.of (s7 _ _ hv6)), dp_intT (SqT.of upd_same), pl_ints 18 (Nat.zero_le _), fun H7 s8 => ?_⟩
    refine ⟨true, rfl, ?_⟩
    refine iteF ?_
    have s57 := s6.trans (s7.trans s8)
    have g7 := g5.trans (GoS.of s57)
    have s17 := same_goN s14 g7 newM
    have j7 := j1.same s17
    obtain ⟨dx7, ob7⟩ := j7.st.obj
    refine ⟨_, rfl, a, dx7, _, rfl, ob7, rfl, a, ta, la, sd, S, Ls, T, L, kv, rfl, j7.st, j.ht20, j.con, j.sz', fun H8 p8 s9 hp8 hv8 => ?_⟩
    refine ⟨_, rfl, .ref p8, .ref r, intsD (ord T L), rfl, dp_intT (SqT.of hv8), dp_intT (SqT.of (s9 _ _ (s17 _ _ hr1))), pl_ints 18 (by omega), fun H9 s10 => ?_⟩
    have s19 := s17.trans (s9.trans s10)
    have j9 := j1.same s19
    obtain ⟨dx9, ob9⟩ := j9.st.obj
    refine ⟨true, rfl, iteT ?_⟩
    have kt9 : KeepT H3 H9 := keepT_of fun y o e ne => (s9.trans s10) _ _ (g7.at (s4 _ _ e) fun z => by
      rcases List.mem_append.mp z with z | z
      · obtain ⟨xs, e2⟩ := hM3 y z
        rw [e] at e2
        exact ne xs (Option.some.inj e2)
      · rw [new4 y z] at e
        exact nomatch e)
    have hdp9 := dp_keep kt9 (dp_same offS_same hdp) (noL_lines T L)
    refine ⟨_, rfl, a, dx9, _, rfl, ob9, rfl, a, ta, la, sd, S, Ls, T, L, kv, rfl, j9.st, fun H10 p10 s11 hp10 hdp10 => ?_⟩
    refine ⟨_, rfl, .ref p10, .ref lp, linesD T L, rfl, dp_same offS_same hdp10, dp_same s11 hdp9, pl_lines j.nd' (fun q => by have := j.sz q; have := j.m9; omega) j.st.rk, fun H11 s12 => ?_⟩
    exact q _ (s1.trans (s19.trans (s11.trans s12)))
end
end K26
set_option Elab.async false
set_option linter.all false
set_option maxRecDepth 100000
set_option maxHeartbeats 8000000
namespace K26
open PySem PySem.Spec PyProof.Rows L2 Dt
/-! ### _law_last -/
theorem leaf_ex : ∀ (d : Nat) (u : Dt), u.size ≤ d → ∃ p w, sub u p = some w ∧ w.len = 0 := by
  intro d
  induction d with
  | zero =>
    intro u h
    refine ⟨[], u, sub_nil u, ?_⟩
    cases e : u.len with
    | zero => rfl
    | succ n =>
      obtain ⟨k, hk⟩ := kid_of (u := u) (j := 0) (by omega)
      have := kid_sz hk
      omega
  | succ d ih =>
    intro u h
    by_cases c : u.len = 0
    · exact ⟨[], u, sub_nil u, c⟩
    · obtain ⟨k, hk⟩ := kid_of (u := u) (j := 0) (by omega)
      have := kid_sz hk
      obtain ⟨p, w, h1, h2⟩ := ih k (by omega)
      exact ⟨0 :: p, w, by rw [sub_kid hk]; exact h1, h2⟩
theorem lf_lv {T w : Dt} {p : Ad} (h1 : sub T p = some w) (h2 : w.len = 0) : p ∈ lv T := by
  refine List.mem_filter.mpr ⟨sub_ad h1, ?_⟩
  rw [isLf_o h1, h2]
  rfl
theorem lf_pos (T : Dt) : 0 < T.lf := by
  obtain ⟨p, w, h1, h2⟩ := leaf_ex _ T (Nat.le_refl _)
  exact List.length_pos_of_mem (lf_lv h1 h2)
def great : List Int := [edgeI, edgeI, edgeI, edgeI, edgeI, edgeI, edgeI, edgeI]
theorem great_rk : rankOf (intsD great) = true := by decide +kernel
theorem great_lex : ∀ (k : Nat) (r : List Int), r.length ≤ k → (∀ i ∈ r, i ≤ edgeI) → HT.lexLt (List.replicate k edgeI) r = false
  | 0, [], _, _ => rfl
  | 0, _ :: _, h, _ => absurd h (by simp)
  | k + 1, [], _, _ => rfl
  | k + 1, i :: r, h, g => by
    rw [List.replicate_succ, HT.lexLt_cons]
    have h1 := g i (List.mem_cons_self ..)
    by_cases c : edgeI = i
    · rw [if_pos c]
      exact great_lex k r (by simpa using h) fun y hy => g y (List.mem_cons_of_mem _ hy)
    · rw [if_neg c]
      exact decide_eq_false (by omega)
theorem rank_edge {r : List Int} (h : rankOf (intsD r) = true) : r.length ≤ 8 ∧ ∀ i ∈ r, i ≤ edgeI := by
  refine ⟨rank_len h, fun i hi => ?_⟩
  have h1 : (decide ((r.map PyData.int).length ≤ 8) && (r.map PyData.int).all partB) = true := h
  rw [Bool.and_eq_true, List.all_eq_true] at h1
  have h2 : (decide (-rankB < i) && decide (i < rankB)) = true := h1.2 (.int i) (List.mem_map_of_mem hi)
  rw [Bool.and_eq_true] at h2
  have h3 := of_decide_eq_true h2.2
  have e : rankB = edgeI + 1 := by decide +kernel
  omega
theorem at_psh (q p : Ad) (rs : List (List Int)) (n : Int) (L : Lns) : at_ q (pshL (q ++ p) rs n L) = pshL p (rs.drop q.length) n (at_ q L) := by
  funext r
  unfold at_ pshL
  by_cases h : r <+: p
  · rw [if_pos ((List.prefix_append_right_inj q).mpr h), if_pos h]
    have e1 : rs.getD (q ++ r).length [] = (rs.drop q.length).getD r.length [] := by
      rw [List.getD_eq_getElem?_getD, List.getD_eq_getElem?_getD, List.getElem?_drop, List.length_append]
    have e2 : itm (q ++ p) n (q ++ r).length = itm p n r.length := by
      unfold itm
      rw [List.length_append, List.getElem?_append_right (by omega), Nat.add_sub_cancel_left]
    rw [e1, e2]
  · rw [if_neg (fun z => h ((List.prefix_append_right_inj q).mp z)), if_neg h]
theorem at_psh_ne {q p : Ad} (h : ¬ q <+: p) (rs : List (List Int)) (n : Int) (L : Lns) : at_ q (pshL p rs n L) = at_ q L := by
  funext r
  unfold at_ pshL
  exact if_neg fun z => h ((List.prefix_append q r).trans z)
theorem con_at {T u : Dt} {q : Ad} {L : Lns} (c : Con T L) (h : sub T q = some u) : Con u (at_ q L) :=
  ⟨fun r w hw hl e he => c.it (q ++ r) w (by rw [(sub_app T q u h r).1]; exact hw) hl e he, fun r w j hw hj => by
    have := c.ct (q ++ r) w j (by rw [(sub_app T q u h r).1]; exact hw) hj
    unfold at_
    rw [this, List.append_assoc]⟩
/-- pushed with the greatest ranks, the packet comes last in every order it lies in -/
theorem ord_great {T u : Dt} {q p : Ad} {L : Lns} {n : Int} (c : Con T L) (hu : sub T q = some u) (hp : p ∈ lv T) (rk : ∀ q, RkOK (L q)) : ord u (at_ q (pshL p (List.replicate (p.length + 1) great) n L)) = if q <+: p then ord u (at_ q L) ++ [n] else ord u (at_ q L) := by
  by_cases h : q <+: p
  · rw [if_pos h]
    obtain ⟨p', rfl⟩ := h
    rw [at_psh]
    obtain ⟨w, hw, hw0⟩ := lv_lf hp
    rw [(sub_app T q u hu p').1] at hw
    refine ord_last p' u w _ _ n (con_at c hu) hw hw0 (by rw [List.length_drop, List.length_replicate, List.length_append]; omega) fun r hr x hx => ?_
    have hl := hr.length_le
    have e : ((List.replicate ((q ++ p').length + 1) great).drop q.length).getD r.length [] = great := by
      rw [List.getD_eq_getElem?_getD, List.getElem?_drop, List.getElem?_replicate, if_pos (by rw [List.length_append]; omega)]
      rfl
    rw [e]
    obtain ⟨h1, h2⟩ := rank_edge (rk (q ++ r) x hx)
    exact great_lex 8 x.1 h1 h2
  · rw [if_neg h, at_psh_ne h]
/-- all that stands, and a tape beside -/
structure JT (K : PySem.W.Frag) (C CS : Addr) (S : List Addr) (H : Hp) (tp ca tr bg : Addr) (Bs : List Addr) (a ta la sd : Addr) (Ls : List Addr) (T : Dt) (B : Bgs) (L : Lns) (kv : List (Key × V)) (now : Int) (m : Nat) : Prop where
  j : J K C CS S H tr bg Bs a ta la sd Ls T B L kv now m
  t : Tape K H tp ca
  tS : tp ∈ S
  tB : tp ∉ Bs
  tL : tp ∉ sd :: Ls
  cS : ca ∉ S
section
variable {K : PySem.W.Frag} {C CS : Addr} {S : List Addr} {H H' : Hp} {tp ca tr bg : Addr} {Bs : List Addr} {a ta la sd : Addr} {Ls : List Addr} {T : Dt} {B : Bgs} {L : Lns} {kv : List (Key × V)} {now : Int} {m : Nat}
theorem JT.rn (j : JT K C CS S H tp ca tr bg Bs a ta la sd Ls T B L kv now m) (r : Rn K tp ca H H') : JT K C CS S H' tp ca tr bg Bs a ta la sd Ls T B L kv now m :=
  ⟨j.j.keep r.gos (fun y hy => by rw [List.mem_singleton.mp hy]; exact j.tS) (fun y hy => by rw [List.mem_singleton.mp hy]; exact j.tB) (fun y hy => by rw [List.mem_singleton.mp hy]; exact j.tL), r.b, j.tS, j.tB, j.tL, j.cS⟩
theorem JT.same (j : JT K C CS S H tp ca tr bg Bs a ta la sd Ls T B L kv now m) (s : Same H H') : JT K C CS S H' tp ca tr bg Bs a ta la sd Ls T B L kv now m := j.rn (Rn.of j.t s)
theorem J.out (j : J K C CS S H tr bg Bs a ta la sd Ls T B L kv now m) {n : Int} (h : ∀ p ∈ lv T, n ∉ its (L p)) {q : Ad} {u : Dt} (hu : sub T q = some u) : n ∉ ord u (at_ q L) := fun z => by
  obtain ⟨p, w, h1, h2, h3⟩ := ord_mem _ u _ (Nat.le_refl _) (con_at j.con hu) n z
  exact h (q ++ p) (lf_lv (by rw [(sub_app T q u hu p).1]; exact h1) h2) h3
end
theorem seat_absent {T : Dt} {L : Lns} {kv : List (Key × V)} (s : Seat T L kv) {n : Int} (h : ∀ p ∈ lv T, n ∉ its (L p)) : valV kv (Sum.inl n : Key) = none := by
  cases e : valV kv (Sum.inl n : Key) with
  | none => rfl
  | some v =>
    obtain ⟨n', i, p, z1, z2, z3, z4⟩ := s.fr _ _ e
    injection z1 with z1
    subst z1
    exact absurd z4 (h p (List.mem_of_getElem? z3))
theorem dps_rep {K : PySem.W.Frag} {H : Hp} {v : V} {d : PyData} (h : Dp K H v d) : ∀ k : Nat, DpAll K H (List.replicate k v) (List.replicate k d)
  | 0 => .nil
  | k + 1 => .cons h (dps_rep h k)
def spLast (K : PySem.W.Frag) (C CS : Addr) : Sp := fun vs H Q _ => ∃ (tp ca tr bg a ta la sd : Addr) (S Bs Ls : List Addr) (T : Dt) (B : Bgs) (L : Lns) (kv : List (Key × V)) (now : Int) (m : Nat) (n : Int), vs = [.ref tp, .ref tr, .ref bg, .ref a, .int n] ∧ JT K C CS S H tp ca tr bg Bs a ta la sd Ls T B L kv now m ∧ (∀ p ∈ lv T, n ∉ its (L p)) ∧ 0 ≤ n ∧ n < packB ∧ ∀ H', Rn K tp ca H H' → Q (.bl true) H'
section
variable {P : Program} {w : World} {K : PySem.W.Frag} {mg : Str → Option Value} {base : Heap} {C CS U : Addr}
theorem ok_last (D : DefAt K mg "_law_last" s_law_last ["tape", "tree", "bags", "standing", "packet"]) (T0 : Txt K mg) (SC : StCl K CS) (GDraw : CalX P w K mg base CX0 1 "_law_draw" ["tape", "many"] (spDraw K)) (GSame : CalX P w K mg base CX0 20 "_law_same" ["one", "other"] (spSame K 20)) (GOrderOf : CalX P w K mg base CX0 21 "order_of" ["standing", "node"] (spOrdQ K C CS)) (GPlaceOf : CalX P w K mg base CX0 21 "place_of" ["standing", "node", "number"] (spPlQ K C CS))
    (MTw : MQ P w K mg base CS 27 "twin" ["self"] (spTwin K C CS)) (MPu : MQ P w K mg base CS 5 "push" ["self", "number", "queue", "ranks"] (spPushQ K C CS)) (MOr : MQ P w K mg base CS 21 "order" ["self"] (spOrder K C CS)) :
    CalX P w K mg base CX0 28 "_law_last" ["tape", "tree", "bags", "standing", "packet"] (spLast K C CS) := by
  refine D.ok sc_law_last (fun vs H Q E h => ?_) (fun f cdv A outer s H vs Q E hr h => ?_)
  · obtain ⟨tp, ca, tr, bg, a, ta, la, sd, S, Bs, Ls, T, B, L, kv, now, m, n, rfl, _⟩ := h
    rfl
  obtain ⟨tp, ca, tr, bg, a, ta, la, sd, S, Bs, Ls, T, B, L, kv, now, m, n, rfl, jt, hn, n0, n1, q⟩ := h
  refine ⟨_, (pss_cons (ps_set (i := 5) sc_law_last.nd rfl (.inl rfl) (pe_m0 (pv 3) SC.cl MOr hr (by decide))) 
    (pss_cons (ps_set (i := 6) sc_law_last.nd rfl (.inl rfl) (pe_conv (t' := tC (.int edgeI)) (pe_op op_sub (pe_conv (t' := tC (.int rankB)) (pe_op op_shl pe_int pe_int) (shl_of (by decide) (by decide +kernel))) pe_int) (by
      rintro σ H Q q
      refine ⟨rankB, 1, rfl, rfl, ?_⟩
      show Q (.int (rankB - 1)) H
      rw [show rankB - 1 = edgeI by decide +kernel]
      exact q))) 
    (pss_cons (ps_set (i := 7) sc_law_last.nd rfl (.inr rfl) (pe_tup (pa_cons (pv 6) (pa_cons (pv 6) (pa_cons (pv 6) (pa_cons (pv 6) (pa_cons (pv 6) (pa_cons (pv 6) (pa_cons (pv 6) (pa_cons (pv 6) pa_nil)))))))))) 
    (pss_cons (ps_set (i := 8) sc_law_last.nd rfl (.inl rfl) (pe_m0 (pv 3) SC.cl MTw hr (by decide))) 
    (pss_cons (ps_set (i := 9) sc_law_last.nd rfl (.inl rfl) (pe_c0 GDraw hr (by decide) rfl (pa_cons (pv 0) (pa_cons (pe_callB call_len_seq (by rfl) T0.len PySem.boot_len (pa_cons (pe_ix ix_list (pv 1) pe_int (fun _ _ => rfl)) pa_nil)) pa_nil)))) 
    (pss_cons (ps_expr (pe_m1 (pv 8) SC.cl MPu hr (by decide) (pa_cons (pv 4) (pa_cons (pv 9) (pa_cons (pe_callTy call_tuple_of (by rfl) T0.tuple PyProof.Rows.boot_tuple (pa_cons (pe_lc (own := [("node", 10)]) (g := gName 10) (tt := tYes) (by rfl) sc_law_last.nd (pi_list (pe_ix ix_list (pe_ix ix_list (pv 1) pe_int (fun _ _ => rfl)) (pv 9) (fun _ _ => rfl))) (blkOk_by (own := [("node", 10)]) (N := N_law_last) (sc := defScope s_law_last) (by decide +kernel)) (fun _ _ _ _ _ => pg_name (i := 10) sc_law_last.nd rfl (Or.inl rfl)) (fun _ _ _ _ _ => pts_nil) (fun _ _ _ _ _ => by exact (pv 7))) pa_nil)) pa_nil))))) 
    (pss_cons (ps_if (pt_not (pt_val (pe_c0 GSame hr (by decide) rfl (pa_cons (pe_m0 (pv 8) SC.cl MOr hr (by decide)) (pa_cons (pe_op op_catA (pv 5) (pe_tup (pa_cons (pv 4) pa_nil))) pa_nil))))) 
      (pss_one (ps_ret pe_bl)) pss_nil) 
    (pss_cons (ps_for PassesOwn.never rfl (pi_range1 (by rfl) T0.range (pa_cons (pe_callB call_len_seq (by rfl) T0.len PySem.boot_len (pa_cons (pv 2) pa_nil)) pa_nil)) (pg_name (i := 10) sc_law_last.nd rfl (Or.inl rfl)) 
      (pss_cons (ps_set (i := 11) sc_law_last.nd rfl (.inl rfl) (pe_c0 GOrderOf hr (by decide) rfl (pa_cons (pv 8) (pa_cons (pv 10) pa_nil)))) 
      (pss_cons (ps_set (i := 12) sc_law_last.nd rfl (.inl rfl) (pe_c0 GOrderOf hr (by decide) rfl (pa_cons (pv 3) (pa_cons (pv 10) pa_nil)))) 
      (pss_cons (ps_if (pt_cmpR op_in_seq (pv 10) (pe_ix ix_list (pe_ix ix_list (pv 1) pe_int (fun _ _ => rfl)) (pv 9) (fun _ _ => rfl)) (by rfl)) 
        (pss_cons (ps_if (pt_not (pt_val (pe_c0 GSame hr (by decide) rfl (pa_cons (pe_c0 GPlaceOf hr (by decide) rfl (pa_cons (pv 8) (pa_cons (pv 10) (pa_cons (pv 4) pa_nil)))) (pa_cons (pe_callB call_len_seq (by rfl) T0.len PySem.boot_len (pa_cons (pv 12) pa_nil)) pa_nil))))) 
          (pss_one (ps_ret pe_bl)) pss_nil) 
        (pss_one (ps_set (i := 12) sc_law_last.nd rfl (.inl rfl) (pe_op op_catA (pv 12) (pe_tup (pa_cons (pv 4) pa_nil)))))) pss_nil) 
      (pss_one (ps_if (pt_not (pt_val (pe_c0 GSame hr (by decide) rfl (pa_cons (pv 11) (pa_cons (pv 12) pa_nil))))) 
        (pss_one (ps_ret pe_bl)) pss_nil)))))) 
    (pss_one (ps_ret pe_bl)))))))))), ?_⟩
  have j := jt.j
  obtain ⟨dx0, ob0⟩ := j.st.obj
  refine ⟨_, rfl, a, dx0, _, rfl, ob0, rfl, a, ta, la, sd, S, Ls, T, L, kv, rfl, j.st, j.ht20, j.con, j.sz', fun H1 r s1 hr0 hr1 => ?_⟩
  refine ⟨_, rfl, _, rfl, _, rfl, _, rfl, _, rfl, _, rfl, _, rfl, _, rfl, (by show 8 ≤ sizeLine; decide), fun g hg => ?_⟩
  have s2 : Same H1 (upd H1 g (.tup (great.map V.int))) := same_new hg
  have hg2 : (upd H1 g (.tup (great.map V.int))) g = some (.tup (great.map V.int)) := upd_same
  have js := jt.same (s1.trans s2)
  have hr2 := s2 _ _ hr1
  have rn2 := Rn.of jt.t (s1.trans s2)
  have eH : upd H1 g (.tup [.int edgeI, .int edgeI, .int edgeI, .int edgeI, .int edgeI, .int edgeI, .int edgeI, .int edgeI]) = upd H1 g (.tup (great.map V.int)) := rfl
  rw [eH]
  revert hg2 js hr2 rn2
  generalize upd H1 g (.tup (great.map V.int)) = H2
  intro hg2 js hr2 rn2
  obtain ⟨dx2, ob2⟩ := js.j.st.obj
  refine ⟨_, rfl, a, dx2, _, rfl, ob2, rfl, a, ta, la, sd, S, Ls, T, L, kv, rfl, js.j.st, js.j.ok, fun H3 a' ta' la' sd' Ls' kv' s3 st3 se3 kl3 new3 ha3 tn3 => ?_⟩
  have jt3 := js.same s3
  obtain ⟨cs3, i3, b3, s3', ctp, htp3, hca3, _⟩ := jt3.t
  have ntp : tp ∉ sd' :: Ls' := fun z => by
    obtain ⟨u, hu⟩ := js.t.some
    rw [new3 tp z] at hu
    exact nomatch hu
  have st3' := st3.beside (M := [tp]) tn3 (fun y hy => by
    rw [List.mem_singleton.mp hy]
    obtain ⟨u, hu⟩ := js.t.some
    rw [hu]
    exact fun z => nomatch z) (fun y hy => by rw [List.mem_singleton.mp hy]; exact ⟨_, htp3⟩)
  obtain ⟨nl, kd, pl, ns, ps, kvs, t1, t2, t3, t4, t5, t6, t7, t8, t9⟩ := (jt3.j.lt.same offS_same).ex
  have hlf := lf_le T
  have hno := j.nd
  refine ⟨_, rfl, _, rfl, tr, _, 2, _, rfl, rfl, SqL.of t1, rfl, pl, ps, rfl, .inl (SqL.of t7), tp, ca, ps.length, rfl, jt3.t, (by rw [t8]; exact lf_pos T), (by rw [t8]; omega), fun H4 i hi rn4 => ?_⟩
  have jt4 := jt3.rn rn4
  have st4 := st3'.keep rn4.gos (fun y hy => List.mem_append_right _ hy) (fun y hy => by rw [List.mem_singleton.mp hy]; exact ntp)
  rw [t8] at hi
  have hp : (lv T)[i]? = some ((lv T)[i]'hi) := List.getElem?_eq_getElem hi
  revert hp
  generalize (lv T)[i]'hi = p
  intro hp
  have hpv := List.mem_of_getElem? hp
  clear t1 t2 t3 t4 t5 t6 t7 t8 t9
  obtain ⟨nl, kd, pl, ns, ps, kvs, t1, t2, t3, t4, t5, t6, t7, t8, t9⟩ := (jt4.j.lt.same offS_same).ex
  obtain ⟨b, e9, hb⟩ := t9 i p hp
  obtain ⟨dx4, ob4⟩ := st4.obj
  refine ⟨_, rfl, a', dx4, _, rfl, ob4, rfl, _, rfl, _, rfl, _, rfl, tr, _, 2, _, rfl, rfl, SqL.of t1, rfl, _, rfl, pl, _, _, _, rfl, rfl, SqL.of t7, atI_nat e9, b, rfl, ⟨_, SqL.of hb⟩, fun Dl hDl => ?_⟩
  have hpl := ht_path hpv
  have hht := j.ht
  refine lc_list (K := K) (a := b) (xs := pth T p (p.length + 1)) (fun k H' => Same H4 H' ∧ H' Dl = some (.lst (List.replicate k (.ref g)))) ⟨same_new hDl, upd_same⟩ (fun k H' _ hh => SqL.of (hh.1 _ _ hb)) ?_ ?_
  · rintro k x H' hk ⟨sm, hD⟩
    have hkl := (List.getElem?_eq_some_iff.mp hk).1
    rw [pth_len] at hkl
    exact ⟨rfl, _, rfl, _, hD, small1000 (by rw [List.length_replicate]; omega), same_mut sm hDl, by rw [upd_same, List.replicate_succ']⟩
  rintro H5 ⟨s5, hD5⟩
  rw [pth_len] at hD5
  refine ⟨Dl, _, rfl, .inl ⟨SqL.of hD5, fun v hv => ?_⟩⟩
  have st5 := st4.same s5
  have st6 := st5.same (same_new (o := .tup (List.replicate (p.length + 1) (.ref g))) hv)
  have rn26 := (((Rn.of js.t s3).trans rn4).same s5).same (same_new (o := .tup (List.replicate (p.length + 1) (.ref g))) hv)
  have hv6 : (upd H5 v (.tup (List.replicate (p.length + 1) (.ref g)))) v = some (.tup (List.replicate (p.length + 1) (.ref g))) := upd_same
  have nv6 : v ∉ (sd' :: Ls') ++ [tp] := fun z => st5.al v z hv
  revert st6 rn26 hv6
  generalize upd H5 v (.tup (List.replicate (p.length + 1) (.ref g))) = H6
  intro st6 rn26 hv6
  have ngt : g ≠ tp := fun e => by
    obtain ⟨_, _, _, _, _, z, _⟩ := js.t
    rw [← e, hg2] at z
    exact nomatch z
  have hg6 := rn26.at hg2 ngt
  have ng6 : g ∉ (sd' :: Ls') ++ [tp] := fun z => by
    rcases List.mem_append.mp z with z | z
    · rw [new3 g z] at hg2
      exact nomatch hg2
    · exact ngt (List.mem_singleton.mp z)
  have hdz : Dp K (offS ((sd' :: Ls') ++ [tp]) H6) (.ref v) (.tuple ((List.replicate (p.length + 1) great).map intsD)) := by
    rw [List.map_replicate]
    exact .tup (SqT.of (by rw [offS_ne nv6]; exact hv6)) (dps_rep (dp_intT (SqT.of (by rw [offS_ne ng6]; exact hg6))) _)
  have hsz9 := j.m9
  refine ⟨a', ta', la', sd', (sd' :: Ls') ++ [tp], Ls', T, L, kv', n, i, p, .ref v, List.replicate (p.length + 1) great, rfl, st6, j.ht20, seat_absent se3 hn, n0, n1, hp, hdz, List.length_replicate, (fun r hr => by rw [(List.mem_replicate.mp hr).2]; exact great_rk), j.sz', kl3, fun H7 g7 st7 => ?_⟩
  have rn27 := rn26.goN g7 new3
  have rn7 := rn2.trans rn27
  have jt7 := jt.rn rn7
  obtain ⟨w0, hw0, hw1⟩ := lv_lf hpv
  have con7 := pshL_con (rs := List.replicate (p.length + 1) great) (n := n) j.con hw0 hw1
  have hsz7 : ∀ q, (pshL p (List.replicate (p.length + 1) great) n L q).length ≤ 100000 := fun q => by
    have := pshL_le p q (List.replicate (p.length + 1) great) n L
    have := j.sz q
    omega
  have se7 := se3.psh (List.replicate (p.length + 1) great) hp (seat_absent se3 hn)
  have e7 : ord T (pshL p (List.replicate (p.length + 1) great) n L) = ord T L ++ [n] := by
    have := ord_great (n := n) j.con (sub_nil T) hpv j.st.rk
    rw [if_pos (List.nil_prefix ..)] at this
    exact this
  obtain ⟨dx7, ob7⟩ := st7.obj
  have nrt : r ≠ tp := fun e => by
    obtain ⟨_, _, _, _, _, z, _⟩ := js.t
    rw [← e, hr2] at z
    exact nomatch z
  have hr7 := rn27.at hr2 nrt
  have hol : (ord T L).length ≤ 100 := by
    rw [ord_length]
    have := j.sz []
    omega
  refine ⟨_, rfl, a', dx7, _, rfl, ob7, rfl, a', ta', la', sd', (sd' :: Ls') ++ [tp], Ls', T, _, _, rfl, st7, j.ht20, con7, hsz7, fun H8 r8 s8 hr80 hr8 => ?_⟩
  rw [e7] at hr8
  refine ⟨_, rfl, _, rfl, (by show 1 ≤ sizeLine; decide), fun t9 ht9 => ?_⟩
  have s9 := same_new (o := .tup [.int n]) ht9
  refine rCatA_all (SqT.of (s9 _ _ (s8 _ _ hr7))) (SqT.of upd_same) (Nat.le_of_lt (small1000 (by rw [List.length_map, List.length_singleton]; omega))) fun tp10 H10 s10 h10 => ?_
  have h10' : SqT K H10 tp10 ((ord T L ++ [n]).map V.int) := by
    rw [List.map_append]
    exact h10
  refine ⟨.ref r8, .ref tp10, intsD (ord T L ++ [n]), rfl, dp_intT (SqT.of (s10 _ _ (s9 _ _ hr8))), dp_intT h10', pl_ints 18 (by rw [List.length_append, List.length_singleton]; omega), fun H11 s11 => ?_⟩
  refine ⟨true, rfl, iteF ?_⟩
  have s711 := s8.trans (s9.trans (s10.trans s11))
  have jt11 := jt7.same s711
  have st11 := st7.same s711
  have hbg := (offS_some jt11.j.bg.ln).2
  have hbl := j.bg.len
  refine ⟨_, rfl, bg, _, rfl, .inl (SqL.of hbg), ?_⟩
  rw [List.length_map]
  refine ⟨_, rfl, by omega, by omega, ?_⟩
  refine for_range (lo := 0) (n := Bs.length) (fun k σ H' => ∃ o10 o11 o12, σ = [some (.ref tp), some (.ref tr), some (.ref bg), some (.ref a), some (.int n), some (.ref r), some (.int edgeI), some (.ref g), some (.ref a'), some (.int (i : Nat)), o10, o11, o12] ∧ Same H11 H') ⟨_, _, _, rfl, fun y o h => h⟩ ?_ ?_
  · rintro k σ H12 hk ⟨o10, o11, o12, rfl, s12⟩
    rw [hbl, ← ad_len] at hk
    have hq : (ad T)[k]? = some ((ad T)[k]'hk) := List.getElem?_eq_getElem hk
    revert hq
    generalize (ad T)[k]'hk = q0
    intro hq
    have hqa := List.mem_of_getElem? hq
    obtain ⟨u, hu⟩ := ad_sub hqa
    have ek : T.idx q0 = k := idx_of hq
    rw [show (0 + (k : Int)) = ((k : Nat) : Int) from Int.zero_add _]
    subst ek
    have jt12 := jt11.same s12
    have st12 := st11.same s12
    have og := ord_great (n := n) j.con hu hpv j.st.rk
    have hoq : (ord u (at_ q0 L)).length ≤ 100 := by
      rw [ord_length, at_nil]
      have := j.sz q0
      omega
    refine ⟨_, rfl, _, rfl, a', ta', la', sd', (sd' :: Ls') ++ [tp], Ls', T, u, _, _, q0, rfl, st12, j.ht20, con7, hsz7, hu, fun H13 r13 s13 hr13 h13 => ?_⟩
    have jt13 := jt12.same s13
    refine ⟨_, rfl, _, rfl, a, ta, la, sd, S, Ls, T, u, L, kv, q0, rfl, jt13.j.st, j.ht20, j.con, j.sz', hu, fun H14 r14 s14 hr14 h14 => ?_⟩
    have jt14 := jt13.same s14
    have st14 := (st12.same s13).same s14
    obtain ⟨nl, kd, pl, ns, ps, kvs, t1, t2, t3, t4, t5, t6, t7, t8, t9⟩ := (jt14.j.lt.same offS_same).ex
    obtain ⟨b, e9, hb⟩ := t9 i p hp
    refine ⟨_, rfl, _, rfl, tr, _, 2, _, rfl, rfl, SqL.of t1, rfl, _, rfl, pl, _, _, _, rfl, rfl, SqL.of t7, atI_nat e9, b, _, rfl, .inl (SqL.of hb), rfl, ?_, _, rfl, ?_⟩
    · rw [List.all_eq_true]
      intro y hy
      unfold pth at hy
      obtain ⟨k, _, rfl⟩ := List.mem_map.mp hy
      rfl
    show (if (inV (V.int (T.idx q0 : Nat)) (pth T p (p.length + 1))) = true then _ else _ : Prop)
    rw [in_path hqa hpv]
    have h13' := s14 _ _ h13
    by_cases hc : q0 <+: p
    · rw [decide_eq_true hc]
      refine iteT ?_
      rw [if_pos hc] at og
      rw [og] at h13'
      refine ⟨_, rfl, _, rfl, _, rfl, a', ta', la', sd', (sd' :: Ls') ++ [tp], Ls', T, u, _, _, q0, n, (ord u (at_ q0 L)).length, rfl, st14, j.ht20, con7, se7, hsz7, hu, n0, n1, ?_, (fun i' hi' z => ?_), fun H15 s15 => ?_⟩
      · rw [og, List.getElem?_append_right (Nat.le_refl _), Nat.sub_self]
        rfl
      · rw [og, List.getElem?_append_left hi'] at z
        exact j.out hn hu (List.mem_of_getElem? z)
      refine ⟨_, rfl, r14, _, rfl, .inr (SqT.of (s15 _ _ h14)), ?_⟩
      rw [List.length_map]
      refine ⟨_, _, .int _, rfl, .int _, .int _, trivial, fun H16 s16 => ⟨true, rfl, iteF ?_⟩⟩
      have s1416 := s15.trans s16
      refine ⟨_, rfl, _, rfl, (by show 1 ≤ sizeLine; decide), fun t17 ht17 => ?_⟩
      have s17 := same_new (o := .tup [.int n]) ht17
      refine rCatA_all (SqT.of (s17 _ _ (s1416 _ _ h14))) (SqT.of upd_same) (Nat.le_of_lt (small1000 (by rw [List.length_map, List.length_singleton]; omega))) fun tp18 H18 s18 h18 => ?_
      have h18' : SqT K H18 tp18 ((ord u (at_ q0 L) ++ [n]).map V.int) := by
        rw [List.map_append]
        exact h18
      have s1418 := s1416.trans (s17.trans s18)
      refine ⟨_, rfl, _, rfl, .ref r13, .ref tp18, intsD (ord u (at_ q0 L) ++ [n]), rfl, dp_intT (SqT.of (s1418 _ _ h13')), dp_intT h18', pl_ints 18 (by rw [List.length_append, List.length_singleton]; omega), fun H19 s19 => ⟨true, rfl, iteF ?_⟩⟩
      exact ⟨_, _, _, rfl, s12.trans (s13.trans (s14.trans (s1418.trans s19)))⟩
    · rw [decide_eq_false hc]
      refine iteF ?_
      rw [if_neg hc] at og
      rw [og] at h13'
      refine ⟨_, rfl, _, rfl, .ref r13, .ref r14, intsD (ord u (at_ q0 L)), rfl, dp_intT (SqT.of h13'), dp_intT (SqT.of h14), pl_ints 18 (by omega), fun H15 s15 => ⟨true, rfl, iteF ?_⟩⟩
      exact ⟨_, _, _, rfl, s12.trans (s13.trans (s14.trans s15))⟩
  · rintro σ H12 ⟨o10, o11, o12, rfl, s12⟩
    exact q _ (rn7.same (s711.trans s12))
end
end K26
set_option Elab.async false
set_option linter.all false
set_option maxRecDepth 100000
set_option maxHeartbeats 8000000
namespace PySem
open PySem PySem.Spec PyProof.Rows PyProof
/-! ### tuple.index of whole numbers -/
theorem meets_tindex (a : Addr) (o : Obj) (items : Array Value) (n : Nat) (ns : List Int) (k : Int) (tk : Tok) (j : Nat) (hi : IntsAre items.toList ns) (hj : ns[j]? = some k) (hno : ∀ i, i < j → ns[i]? ≠ some k) : Meets (Builtin.«tuple.index» ⟨[.ref a, .int k tk], []⟩) (fun A R s =>
      s.heap.get? a = some o ∧ o.data = .seq items n ∧ (∀ tk' t2, R (.ok (.ret (.int (j : Nat) tk'))) { s with toks := t2 })) := by
  intro prog w A R s h
  obtain ⟨ho, hd, hR⟩ := h
  unfold Builtin.«tuple.index»
  simp only [Std.Legacy.Range.forIn_eq_forIn_range']
  wp_walk using wpAny_tupleItemsOf ho hd
  have hjl := (List.getElem?_eq_some_iff.mp hj).1
  have hsz : items.size = ns.length := by
    have : ∀ {us : List Value} {ms : List Int}, IntsAre us ms → us.length = ms.length := by
      intro us ms h
      induction h with
      | nil => rfl
      | cons _ _ _ ih => exact congrArg (· + 1) ih
    have := this hi
    rwa [Array.length_toList] at this
  have hm : [:min items.size items.size].size = items.size := by
    show (min items.size items.size - 0 + 1 - 1) / 1 = items.size
    rw [Nat.min_self, Nat.div_one]
    omega
  rw [hm]
  have hat : ∀ i, i < items.size → ∃ x t, ns[i]? = some x ∧ items[i]? = some (.int x t) := fun i hil => by
    have : ∀ {us : List Value} {ms : List Int}, IntsAre us ms → ∀ i, i < us.length → ∃ x t, ms[i]? = some x ∧ us[i]? = some (.int x t) := by
      intro us ms h
      induction h with
      | nil => exact fun i h => absurd h (Nat.not_lt_zero _)
      | cons x t _ ih =>
        intro i h
        cases i with
        | zero => exact ⟨x, t, rfl, rfl⟩
        | succ i => exact ih i (by simpa using h)
    obtain ⟨x, t, h1, h2⟩ := this hi i (by rw [Array.length_toList]; exact hil)
    exact ⟨x, t, h1, by rw [← Array.getElem?_toList]; exact h2⟩
  refine wpAny_forIn_list (M := model prog w) _ (fun (l : List Nat) (b : Option PySem.Fin × Unit) s' => s' = s ∧ b = (none, ()) ∧ ∃ i, l = List.range' i (items.size - i) ∧ i ≤ j) _ ?_ ?_ (List.range' 0 items.size) ((none, ()) : Option PySem.Fin × Unit) ⟨rfl, rfl, 0, rfl, Nat.zero_le _⟩
  · rintro i0 rest b s' ⟨rfl, rfl, i, hl, hij⟩
    have hn : items.size - i = (items.size - (i + 1)) + 1 := by
      cases e : items.size - i with
      | zero =>
        rw [e] at hl
        exact nomatch hl
      | succ c => omega
    rw [hn, List.range'_succ] at hl
    injection hl with h1 h2
    subst h1
    obtain ⟨x, t, g1, g2⟩ := hat i0 (by omega)
    simp only [g2]
    refine wpAny_bind (wpAny_eqBool_int ?_)
    by_cases c : i0 = j
    · subst c
      rw [hj] at g1
      obtain rfl := Option.some.inj g1
      rw [beq_self_eq_true]
      wp_walk
      exact hR _ _
    · have hx : (x == k) = false := by
        rw [beq_eq_false_iff_ne]
        intro e
        exact hno i0 (by omega) (by rw [g1, e])
      rw [hx]
      wp_walk
      exact ⟨rfl, rfl, i0 + 1, h2, by omega⟩
  · rintro b s' ⟨rfl, rfl, i, hl, hij⟩
    have : items.size - i = 0 := by
      have := congrArg List.length hl
      rw [List.length_range'] at this
      exact this.symm
    omega
end PySem
namespace L2
open PySem PySem.Spec PyProof.Rows
def rTIndex (K : PySem.W.Frag) : V → List V → Hp → VK → Prop := fun x xs H Q => ∃ (a : Addr) (ns : List Int) (k : Int) (j : Nat), x = .ref a ∧ xs = [.int k] ∧ SqT K H a (ns.map V.int) ∧ ns[j]? = some k ∧ (∀ i, i < j → ns[i]? ≠ some k) ∧ Q (.int (j : Nat)) H
theorem mt_tindex {X : Cx} {K : PySem.W.Frag} (hK : X.K = K) : MtR X "tuple.index" (rTIndex K) := by
  subst hK
  intro pins s σ H x xs v us Q I rx rxs h
  obtain ⟨a, ns, k, j, rfl, rfl, hs, hj, hno, q⟩ := h
  cases rx
  cases rxs with
  | @cons _ u _ _ ry rr =>
  cases rr
  obtain ⟨tk, rfl⟩ := ry
  obtain ⟨its, rv, ⟨o, ho, hc, n, hd⟩, _⟩ := I.tuple hs
  refine call_meets (T := "tuple") F.slot_tuple_index ⟨_, ho, hc⟩ F.entry_tuple_index (by rfl) (meets_tindex a o its.toArray n ns k tk j (ints_vals3 rv) hj hno) ⟨ho, hd, fun tk' t2 => ?_⟩
  exact ⟨.int (j : Nat), H, ⟨I.ok, I.os, I.bare, I.base, I.loc, I.cell, I.free, I.freeC, I.pin, I.hok, I.len⟩, ⟨tk', rfl⟩, q⟩
end L2
set_option Elab.async false
set_option linter.all false
set_option maxRecDepth 100000
set_option maxHeartbeats 8000000
namespace L2
open PySem PySem.Spec PyProof.Rows
/-! ### tuple(list), its object kept; methods of such a tuple -/
def rTupF (K : PySem.W.Frag) : List V → Hp → VK → Prop := fun xs H Q => ∃ p ys, xs = [V.ref p] ∧ SqL K H p ys ∧ ∀ (l : Addr) (o : Obj), H l = none → o.dict = none → o.cls = .type "tuple" → Q (V.ref l) (upd H l (HO.frz o (HO.tup ys)))
theorem call_tupleF {X : Cx} {K : PySem.W.Frag} (hK : X.K = K) : CallR X (.type "tuple") (rTupF K) := by
  subst hK
  intro pins s σ H xs us Q I rv h
  obtain ⟨p, ys, rfl, hl, q⟩ := h
  cases rv with
  | cons r rr =>
  cases rr
  cases r
  obtain ⟨its, rv, pl, hz⟩ := I.list hl
  have hlen := rv.length
  obtain ⟨o, n, ho, hc, _, hd⟩ := pl
  refine callType_new F.called_tuple (by decide) (F.typeCall_tuple_1 _) (F.newCall_tuple_1 _) (fun obj => F.args_object_init_2 obj _) F.entry_tuple_new (meets_tuple_new_list p o its.toArray n hc hd (by rw [List.size_toArray]; omega)) ⟨ho, fun h' hk => ?_⟩
  have I1 := I.kept (h' := h') (t' := s.toks) hk
  have g : (h'.push { cls := .type "tuple", data := .seq its.toArray }).get? h'.objs.size = some { cls := .type "tuple", data := .seq its.toArray } := Heap.get?_push_size _ rfl
  refine ⟨⟨_, g, rfl⟩, .ref h'.objs.size, upd H h'.objs.size (.frz { cls := .type "tuple", data := .seq its.toArray } (.tup ys)), I1.laid (fun b u hb => Heap.get?_push_of_some _ hb) (Nat.le_refl _) ⟨g, hz, its, rv, ⟨_, g, rfl, _, rfl⟩⟩, rfl, q _ _ I1.fresh rfl rfl⟩
section
variable {X : Cx} {o e : Expr} {es : List Expr} {to : TE} {t : TA} {name : Str} {apos cpos : Pos} {id : String} {r : V → List V → Hp → VK → Prop}
def tBMF (r : V → List V → Hp → VK → Prop) (to : TE) (t : TA) : TE := fun σ H Q => to σ H fun x H1 => (∃ p ob ys, x = .ref p ∧ H1 p = some (.frz ob (.tup ys)) ∧ ob.dict = none ∧ ob.cls = .type "tuple") ∧ t σ H1 fun xs H2 => r x xs H2 Q
theorem pe_bmF (pa : PlainAttrs "tuple") (slot : Slot "tuple" name id) (hty : typeOf (.builtin id) = pure (.type "method_descriptor")) (hm : MtR X id r) (ho : PE X o to) (ha : PA X (e :: es) t)
    (h1 : attributeBase o name X.env (eval o X.env) = eval o X.env := by rfl)
    (h2 : ((((backTo cpos (starEach (e :: es) X.env)).all fun x => !x.1) && (backToKw cpos (keywordEach [] X.env)).all fun x => x.1.isSome) && decide (((e :: es).length + ([] : List Keyword).length + if ([] : List Keyword).isEmpty = true then 0 else 1) < 30)) = true := by rfl)
    (h3 : (apos.endLine == cpos.line) = true := by rfl)
    (hst : starEach (e :: es) X.env = (false, eval e X.env) :: starEach es X.env := by rfl) (hpl : (backTo cpos (starEach es X.env)).any (·.1) = false := by rfl) :
    PE X (.Call (.Attribute o name apos) (e :: es) [] cpos) (tBMF r to t) := by
  refine ⟨fun pins s σ H Q I h => ?_⟩
  refine wpAny_Call_method h1 h2 h3 pa slot hty (thn (ho.run pins s σ H _ I h) fun u s1 ⟨x, H1, I1, rx, ⟨p, ob, ys, ex, ep, hdn, hcl⟩, q⟩ => ?_)
  subst ex
  have eu : u = Value.ref p := rx
  subst eu
  obtain ⟨g, _⟩ := I1.hok p _ ep
  refine ⟨⟨_, g, hcl⟩, fun a ea => ?_, ?_⟩
  · injection ea with ea
    subst ea
    exact ⟨ob, g, hdn⟩
  refine callWith_method1 (thn (ha.run cpos pins s1 σ H1 _ I1 q) fun ws s2 ⟨zs, H2, I2, rz, q2⟩ => ?_) hst hpl
  exact hm pins s2 σ H2 (.ref p) zs (.ref p) ws Q I2 rfl rz q2
end
end L2
set_option Elab.async false
set_option linter.all false
set_option maxRecDepth 100000
set_option maxHeartbeats 8000000
namespace K26
open PySem PySem.Spec PyProof.Rows L2 Dt
/-! ### _law_looks -/
theorem un64 {k : Nat} {A : Around} (hr : Room k A) : A.units + 64 < cLine := by have := hr.un; omega
theorem op_in_seqK {X : Cx} {K : PySem.W.Frag} (hK : X.K = K) : OpR X (compareOp CmpOp.In) (rIn K false) := hK ▸ op_in_seq
theorem SqT.frz {K : PySem.W.Frag} {H : Hp} {y : Addr} {o : Obj} {xs : List V} (h : H y = some (.frz o (.tup xs))) : SqT K H y xs := Or.inl (Or.inr ⟨o, h⟩)
theorem in_ints (y : Int) (l : List Int) : inV (.int y) (l.map V.int) = decide (y ∈ l) := by
  unfold inV
  by_cases h : y ∈ l
  · rw [decide_eq_true h, List.any_eq_true]
    exact ⟨.int y, List.mem_map_of_mem h, beq_self_eq_true _⟩
  · rw [decide_eq_false h, List.any_eq_false]
    intro z hz e
    obtain ⟨x, hx, rfl⟩ := List.mem_map.mp hz
    have e2 : x = y := by simpa [eqV] using e
    exact h (e2 ▸ hx)
theorem flat_ints (l : List Int) : (l.map V.int).all flatV = true := by
  rw [List.all_eq_true]
  intro y hy
  obtain ⟨k, _, rfl⟩ := List.mem_map.mp hy
  rfl
theorem shaped_ints (l : List Int) : SeqAt.shaped (intsD l) = true := (shp_ints (n := 1) (l := l)).ok (by decide)
theorem first_ix : ∀ {l : List Int} {y : Int}, y ∈ l → ∃ j : Nat, l[j]? = some y ∧ ∀ i, i < j → l[i]? ≠ some y
  | [], _, h => nomatch h
  | z1 :: l, y, h => by
    by_cases e : z1 = y
    · exact ⟨0, by rw [e]; rfl, fun i hi => absurd hi (Nat.not_lt_zero _)⟩
    · obtain ⟨j, h1, h2⟩ := first_ix ((List.mem_cons.mp h).resolve_left fun z => e z.symm)
      refine ⟨j + 1, h1, fun i hi => ?_⟩
      cases i with
      | zero => exact fun z => e (Option.some.inj z)
      | succ i => exact h2 i (by omega)
/-- the packets amid the bags of a leaf are those in its line -/
theorem rel_its {T : Dt} {B : Bgs} {L : Lns} {now : Int} (r : Rel T B L now) {p : Ad} (hp : p ∈ ad T) (n : Int) : n ∈ its (L p) ↔ ∃ e ∈ B p, e.2.2 = n := by
  obtain ⟨s, h1, _, h3⟩ := (r p hp).ex
  unfold its
  rw [h3]
  constructor
  · intro h
    obtain ⟨e, he, rfl⟩ := List.mem_map.mp h
    obtain ⟨t, ht, rfl⟩ := List.mem_map.mp he
    exact ⟨t, h1.mem_iff.mp ht, rfl⟩
  · rintro ⟨t, ht, rfl⟩
    exact List.mem_map.mpr ⟨en t, List.mem_map_of_mem (h1.mem_iff.mpr ht), rfl⟩
theorem due_eq {T u : Dt} {B : Bgs} {L : Lns} {kv : List (Key × V)} {now : Int} {q : Ad} (r : Rel T B L now) (c : Con T L) (s : Seat T L kv) (hu : sub T q = some u) : (ord T L).filter (fun x => decide (x ∈ heldL T B q (lv T))) = ord u (at_ q L) := by
  refine ord_filter _ q T u L hu c fun p w hp hw x hx => ?_
  have hpl := lf_lv hp hw
  by_cases h : q <+: p
  · rw [decide_eq_true h]
    exact decide_eq_true (heldL_mem.mpr ⟨p, hpl, h, (rel_its r (lv_ad hpl) x).mp hx⟩)
  · rw [decide_eq_false h]
    refine decide_eq_false fun z => h ?_
    obtain ⟨p', hp', hq', he⟩ := heldL_mem.mp z
    have hx' := (rel_its r (lv_ad hp') x).mpr he
    obtain ⟨i, hi⟩ := List.mem_iff_getElem?.mp hpl
    obtain ⟨i', hi'⟩ := List.mem_iff_getElem?.mp hp'
    have e1 := s.to x i p hi hx
    have e2 := s.to x i' p' hi' hx'
    rw [e1] at e2
    injection e2 with e2
    injection e2 with e2
    have e3 : i = i' := by omega
    subst e3
    rw [lv_inj hi hi']
    exact hq'
theorem pl_ref (z : Str) : plainT 20 (.tuple [.str "refused", .str z, .int (-1)]) := by
  refine ⟨(by show 3 ≤ 1000000; decide), fun d hd => ?_⟩
  rcases List.mem_cons.mp hd with rfl | hd
  · trivial
  rcases List.mem_cons.mp hd with rfl | hd
  · trivial
  rcases List.mem_cons.mp hd with rfl | hd
  · trivial
  · exact nomatch hd
theorem dp_ref {K : PySem.W.Frag} {H : Hp} {y : Addr} {z : Str} (h : H y = some (.tup [.str "refused", .str z, .int (-1)])) : Dp K H (.ref y) (.tuple [.str "refused", .str z, .int (-1)]) := .tup (SqT.of h) (.cons (.str _) (.cons (.str _) (.cons (.int _) .nil)))
def tWord (K : PySem.W.Frag) (z1 z2 : Str) : TS := fun D σ H => ∃ tp ca, σ[0]? = some (some (.ref tp)) ∧ Tape K H tp ca ∧ ∀ w H', (w = z1 ∨ w = z2) → Rn K tp ca H H' → D.nx (σ.set 11 (some (.str w))) H'
theorem word_conv {K : PySem.W.Frag} (z1 z2 : Str) : ∀ (D : Ends) (σ : L2.St) (H : Hp), tWord K z1 z2 D σ H → tAsg (tIf (tTest (tOp rEq (tCall (spDraw K) [] E0 (tCons (tVar 0) (tCons (tC (.int 2)) tNil))) (tC (.int 0)))) (tC (.str z1)) (tC (.str z2))) (gName 11) D σ H := by
  rintro D σ H ⟨tp, ca, h0, ht, q⟩
  refine ⟨_, h0, tp, ca, 2, rfl, ht, by decide, by decide, fun H' r hr rn => ?_⟩
  refine ⟨rfl, _, rfl, ite2 (fun _ => q _ H' (.inl rfl) rn) fun _ => q _ H' (.inr rfl) rn⟩
def spLooks (K : PySem.W.Frag) (C CS : Addr) : Sp := fun vs H Q _ => ∃ (tp ca tr bg a ta la sd : Addr) (S Bs Ls : List Addr) (T : Dt) (B : Bgs) (L : Lns) (kv : List (Key × V)) (now : Int) (m : Nat) (n : Int), vs = [.ref tp, .ref tr, .ref bg, .ref a, .int n] ∧ JT K C CS S H tp ca tr bg Bs a ta la sd Ls T B L kv now m ∧ ∀ H', Rn K tp ca H H' → Q (.bl true) H'
section
variable {P : Program} {w : World} {K : PySem.W.Frag} {mg : Str → Option Value} {base : Heap} {C CS U : Addr}
theorem ok_looks (D : DefAt K mg "_law_looks" s_law_looks ["tape", "tree", "bags", "standing", "absent"]) (T0 : Txt K mg) (SC : StCl K CS) (GDraw : CalX P w K mg base CX0 1 "_law_draw" ["tape", "many"] (spDraw K)) (GSame : CalX P w K mg base CX0 20 "_law_same" ["one", "other"] (spSame K 20)) (GRow : CalX P w K mg base CX0 2 "_law_row" ["tree", "bags", "start"] (spRow K)) (GHeld : CalX P w K mg base CX0 1 "_law_held" ["tree", "bags", "node"] (spHeld K)) (GAsk : CalX P w K mg base CX0 22 "_law_ask" ["word", "standing", "node", "number"] (spAsk K C CS))
    (MAl : MQ P w K mg base CS 1 "all_lines" ["self"] (spAllL K C CS)) (MOr : MQ P w K mg base CS 21 "order" ["self"] (spOrder K C CS)) :
    CalX P w K mg base CX0 23 "_law_looks" ["tape", "tree", "bags", "standing", "absent"] (spLooks K C CS) := by
  refine D.ok sc_law_looks (fun vs H Q E h => ?_) (fun f cdv A outer s H vs Q E hr h => ?_)
  · obtain ⟨tp, ca, tr, bg, a, ta, la, sd, S, Bs, Ls, T, B, L, kv, now, m, n, rfl, _⟩ := h
    rfl
  obtain ⟨tp, ca, tr, bg, a, ta, la, sd, S, Bs, Ls, T, B, L, kv, now, m, n0, rfl, jt, q⟩ := h
  refine ⟨_, (pss_cons (ps_set (i := 5) sc_law_looks.nd rfl (.inr rfl) (pe_c0 GRow hr (by decide) rfl (pa_cons (pv 1) (pa_cons (pv 2) (pa_cons pe_int pa_nil))))) 
    (pss_cons (ps_set (i := 6) sc_law_looks.nd rfl (.inl rfl) (pe_m0 (pv 3) SC.cl MAl hr (by decide))) 
    (pss_cons (ps_if (pt_not (pt_val (pe_c0 GSame hr (by decide) rfl (pa_cons (pe_m0 (pv 3) SC.cl MOr hr (by decide)) (pa_cons (pv 5) pa_nil))))) 
      (pss_one (ps_ret pe_bl)) pss_nil) 
    (pss_cons (ps_for PassesOwn.never rfl (pi_range1 (by rfl) T0.range (pa_cons (pe_callB call_len_seq (by rfl) T0.len PySem.boot_len (pa_cons (pv 2) pa_nil)) pa_nil)) (pg_name (i := 7) sc_law_looks.nd rfl (Or.inl rfl)) 
      (pss_cons (ps_set (i := 8) sc_law_looks.nd rfl (.inr rfl) (pe_c0 GHeld hr (by decide) rfl (pa_cons (pv 1) (pa_cons (pv 2) (pa_cons (pv 7) pa_nil))))) 
      (pss_cons (ps_set (i := 10) sc_law_looks.nd rfl (.inl rfl) (pe_callTy (call_tupleF (K := K) (by exact rfl)) (by rfl) T0.tuple PyProof.Rows.boot_tuple (pa_cons (pe_lc (own := [("packet", 9)]) (g := gName 9) (by rfl) sc_law_looks.nd (pi_tup (pv 5)) (blkOk_by (own := [("packet", 9)]) (N := N_law_looks) (sc := defScope s_law_looks) (by decide +kernel)) (fun _ _ _ _ _ => pg_name (i := 9) sc_law_looks.nd rfl (Or.inl rfl)) (fun _ _ _ _ _ => by exact (pts_one (pt_cmpR (op_in_seqK (K := K) (by exact rfl)) (pv 9) (pv 8) (by rfl)))) (fun _ _ _ _ _ => by exact (pv 9))) pa_nil))) 
      (pss_cons (ps_conv (t' := tWord K _ _) (ps_set (i := 11) sc_law_looks.nd rfl (.inl rfl) (pe_ifExp (pt_cmpR op_eq (pe_c0 GDraw hr (by decide) rfl (pa_cons (pv 0) (pa_cons pe_int pa_nil))) pe_int (nomark _)) pe_str pe_str)) (word_conv _ _)) 
      (pss_cons (ps_if (PW.pt (pw_or (pt_not (pt_val (pe_c0 GSame hr (by decide) rfl (pa_cons (pe_c0 GAsk hr (by decide) rfl (pa_cons (pv 11) (pa_cons (pv 3) (pa_cons (pv 7) (pa_cons pe_int pa_nil))))) (pa_cons (pv 10) pa_nil))))) (pw_or1 (pt_cmpR (op_neD (un64 hr)) (pv 10) (pe_c0 GRow hr (by decide) rfl (pa_cons (pv 1) (pa_cons (pv 2) (pa_cons (pv 7) pa_nil)))) (nomark _))))) 
        (pss_one (ps_ret pe_bl)) pss_nil) 
      (pss_one (ps_for PassesOwn.never rfl (pi_list (pe_op op_cat (pe_lc (own := [("k", 12)]) (g := gName 12) (by rfl) sc_law_looks.nd (pi_range1 (by rfl) T0.range (pa_cons pe_int pa_nil)) (blkOk_by (own := [("k", 12)]) (N := N_law_looks) (sc := defScope s_law_looks) (by decide +kernel)) (fun _ _ _ _ _ => pg_name (i := 12) sc_law_looks.nd rfl (Or.inl rfl)) (fun _ _ _ _ _ => by exact (pts_one (pt_cmpR op_gt (pe_callB (call_len_seqK (K := K) (by exact rfl)) (by rfl) T0.len PySem.boot_len (pa_cons (pv 5) pa_nil)) pe_int (nomark _)))) (fun _ _ _ _ _ => by exact (pe_ix (show IxR _ (rIxT K) from ix_tup) (pv 5) (pe_c0 GDraw hr (by decide) rfl (pa_cons (pv 0) (pa_cons (pe_callB (call_len_seqK (K := K) (by exact rfl)) (by rfl) T0.len PySem.boot_len (pa_cons (pv 5) pa_nil)) pa_nil))) (fun _ _ => rfl)))) (pe_lst (pa_cons (pv 4) pa_nil)))) (pg_name (i := 9) sc_law_looks.nd rfl (Or.inl rfl)) 
        (pss_cons (ps_set (i := 13) sc_law_looks.nd rfl (.inl rfl) (pe_tup (pa_cons pe_str (pa_cons pe_str (pa_cons (pe_un un_neg pe_int) pa_nil))))) 
        (pss_cons (ps_if (pt_cmpR op_in_seq (pv 9) (pv 10) (by rfl)) 
          (pss_one (ps_set (i := 13) sc_law_looks.nd rfl (.inl rfl) (pe_bmF PySem.F.plainAttrs_tuple PySem.F.slot_tuple_index PySem.F.type_tuple_index (mt_tindex (K := K) (by exact rfl)) (pv 10) (pa_cons (pv 9) pa_nil)))) pss_nil) 
        (pss_cons (ps_conv (t' := tWord K _ _) (ps_set (i := 11) sc_law_looks.nd rfl (.inl rfl) (pe_ifExp (pt_cmpR op_eq (pe_c0 GDraw hr (by decide) rfl (pa_cons (pv 0) (pa_cons pe_int pa_nil))) pe_int (nomark _)) pe_str pe_str)) (word_conv _ _)) 
        (pss_one (ps_if (pt_not (pt_val (pe_c0 GSame hr (by decide) rfl (pa_cons (pe_c0 GAsk hr (by decide) rfl (pa_cons (pv 11) (pa_cons (pv 3) (pa_cons (pv 7) (pa_cons (pv 9) pa_nil))))) (pa_cons (pv 13) pa_nil))))) 
          (pss_one (ps_ret pe_bl)) pss_nil)))))))))))) 
    (pss_one (ps_ret (pe_c0 GSame hr (by decide) rfl (pa_cons (pe_m0 (pv 3) SC.cl MAl hr (by decide)) (pa_cons (pv 6) pa_nil))))))))), ?_⟩
  have j := jt.j
  have s0 : sub T [] = some T := sub_nil T
  refine ⟨_, rfl, _, rfl, tr, bg, S, Bs, T, T, B, L, now, [], (by rw [idx_nil]; rfl), j.lt, j.bg, j.re, sub_nil T, j.con, j.ht20, j.nd', j.bz', fun H1 r s1 hr0 hr1' => ?_⟩
  have hr1 : H1 r = some (.tup ((ord T L).map V.int)) := hr1'
  have jt1 := jt.same s1
  obtain ⟨dx1, ob1⟩ := jt1.j.st.obj
  refine ⟨_, rfl, a, dx1, _, rfl, ob1, rfl, a, ta, la, sd, S, Ls, T, L, kv, rfl, jt1.j.st, fun H2 lp s2 hl2 hdp => ?_⟩
  have jt2 := jt1.same s2
  obtain ⟨dx2, ob2⟩ := jt2.j.st.obj
  refine ⟨_, rfl, a, dx2, _, rfl, ob2, rfl, a, ta, la, sd, S, Ls, T, L, kv, rfl, jt2.j.st, j.ht20, j.con, j.sz', fun H3 p3 s3 hp3 hv3 => ?_⟩
  have hr3 := s3 _ _ (s2 _ _ hr1)
  have hol : (ord T L).length ≤ 100 := by
    rw [ord_length]
    have := j.sz []
    have := j.m9
    omega
  refine ⟨_, rfl, .ref p3, .ref r, intsD (ord T L), rfl, dp_intT (SqT.of hv3), dp_intT (SqT.of hr3), pl_ints 18 (by omega), fun H4 s4 => ?_⟩
  refine ⟨true, rfl, iteF ?_⟩
  have jt4 := (jt2.same s3).same s4
  have rn04 : Rn K tp ca H H4 := Rn.of jt.t (s1.trans (s2.trans (s3.trans s4)))
  have hr4 := s4 _ _ hr3
  have hdp4 : Dp K (offS S H4) (.ref lp) (linesD T L) := dp_same ((GoS.of (s3.trans s4) : GoS [] H2 H4).wide fun y h => nomatch h).s hdp
  have nrt : r ≠ tp := fun e => by
    obtain ⟨_, _, _, _, _, z, _⟩ := jt4.t
    rw [← e, hr4] at z
    exact nomatch z
  have hbg := (offS_some jt4.j.bg.ln).2
  have hbl := j.bg.len
  have hno := j.nd
  refine ⟨_, rfl, bg, _, rfl, .inl (SqL.of hbg), ?_⟩
  rw [List.length_map]
  refine ⟨_, rfl, by omega, by omega, ?_⟩
  refine for_range (lo := 0) (n := Bs.length) (fun k σ H' => ∃ o7 o8 o9 o10 o11 o12 o13, σ = [some (.ref tp), some (.ref tr), some (.ref bg), some (.ref a), some (.int n0), some (.ref r), some (.ref lp), o7, o8, o9, o10, o11, o12, o13] ∧ Rn K tp ca H4 H') ⟨_, _, _, _, _, _, _, rfl, Rn.refl jt4.t⟩ ?_ ?_
  · rintro k σ H5 hk ⟨o7, o8, o9, o10, o11, o12, o13, rfl, rn5⟩
    rw [hbl, ← ad_len] at hk
    have hq : (ad T)[k]? = some ((ad T)[k]'hk) := List.getElem?_eq_getElem hk
    revert hq
    generalize (ad T)[k]'hk = q0
    intro hq
    have hqa := List.mem_of_getElem? hq
    obtain ⟨u, hu⟩ := ad_sub hqa
    have ek : T.idx q0 = k := idx_of hq
    rw [show (0 + (k : Int)) = ((k : Nat) : Int) from Int.zero_add _]
    subst ek
    have jt5 := jt4.rn rn5
    have hr5 := rn5.at hr4 nrt
    have hoq : (ord u (at_ q0 L)).length ≤ 100 := by
      rw [ord_length, at_nil]
      have := j.sz q0
      have := j.m9
      omega
    refine ⟨_, rfl, _, rfl, _, rfl, tr, bg, S, Bs, T, B, q0, rfl, jt5.j.lt, jt5.j.bg, hqa, j.ht20, j.nd2, j.bz', fun H6 hA s6 hA0 hhl => ?_⟩
    have hr6 := s6 _ _ hr5
    refine ⟨_, rfl, r, rfl, ⟨_, SqT.of hr6⟩, fun Dl hDl => ?_⟩
    refine lc_tup (K := K) (a := r) (xs := (ord T L).map V.int) (fun k H' => Same H6 H' ∧ H' Dl = some (.lst ((((ord T L).take k).filter fun x => decide (x ∈ heldL T B q0 (lv T))).map V.int))) ⟨same_new hDl, by rw [upd_same]; rfl⟩ (fun k H' _ hh => SqT.of (hh.1 _ _ hr6)) ?_ ?_
    · rintro k x H' hk ⟨sm, hD⟩
      rw [List.getElem?_map] at hk
      obtain ⟨y, hy, rfl⟩ := Option.map_eq_some_iff.mp hk
      have hkl := (List.getElem?_eq_some_iff.mp hy).1
      refine ⟨rfl, _, rfl, _, rfl, hA, _, rfl, .inl (SqL.of (sm _ _ hhl)), rfl, flat_ints _, _, rfl, ?_⟩
      show (if (inV (V.int y) ((heldL T B q0 (lv T)).map V.int)) = true then _ else _ : Prop)
      rw [in_ints]
      have etk : (ord T L).take (k + 1) = (ord T L).take k ++ [y] := by rw [List.take_add_one, hy]; rfl
      have hfl : (((ord T L).take k).filter fun x => decide (x ∈ heldL T B q0 (lv T))).length ≤ 100 := Nat.le_trans (List.length_filter_le ..) (by rw [List.length_take]; omega)
      by_cases hc : y ∈ heldL T B q0 (lv T)
      · rw [decide_eq_true hc]
        refine iteT ?_
        refine ⟨_, rfl, _, hD, small1000 (by rw [List.length_map]; omega), same_mut sm hDl, ?_⟩
        rw [upd_same, etk, List.filter_append, List.filter_cons_of_pos (by simpa using hc), List.filter_nil, List.map_append]
        rfl
      · rw [decide_eq_false hc]
        refine iteF ?_
        refine ⟨sm, ?_⟩
        rw [etk, List.filter_append, List.filter_cons_of_neg (by simpa using hc), List.filter_nil, List.append_nil]
        exact hD
    rintro H7 ⟨s7, hD7⟩
    rw [List.length_map, List.take_length, due_eq j.re j.con j.se hu] at hD7
    refine ⟨Dl, _, rfl, SqL.of hD7, fun dv od hdv hod hoc => ?_⟩
    have s8 : Same H7 (upd H7 dv (.frz od (.tup ((ord u (at_ q0 L)).map V.int)))) := same_new hdv
    have hd8 : (upd H7 dv (.frz od (.tup ((ord u (at_ q0 L)).map V.int)))) dv = some (.frz od (.tup ((ord u (at_ q0 L)).map V.int))) := upd_same
    revert s8 hd8
    generalize upd H7 dv (.frz od (.tup ((ord u (at_ q0 L)).map V.int))) = H8
    intro s8 hd8
    have s58 := s6.trans (s7.trans s8)
    have jt8 := jt5.same s58
    have rn58 := Rn.of jt5.t s58
    refine ⟨tp, ca, rfl, jt8.t, fun w1 H9 hw1 rn9 => ?_⟩
    have jt9 := jt8.rn rn9
    have ndt : dv ≠ tp := fun e => by
      obtain ⟨_, _, _, _, _, z, _⟩ := jt8.t
      rw [← e, hd8] at z
      exact nomatch z
    have hd9 := rn9.at hd8 ndt
    refine ⟨_, rfl, _, rfl, _, rfl, w1, .ref a, _, _, rfl, .inl ⟨hw1, true, stv_of jt9.j.st, (fun z => nomatch z), fun _ => ⟨a, ta, la, sd, S, Ls, T, L, kv, some (T.idx q0 : Nat), rfl, jt9.j.st, j.ht20, j.con, j.sz', rfl, (fun z => ?_), fun q' u' e hu' H10 p10 s10 hp10 hv10 => ?_⟩⟩⟩
    · rw [below_idx hu] at z
      exact nomatch z
    obtain ⟨rfl, rfl⟩ := idx_sub hu hu' e
    have hd10 := s10 _ _ hd9
    refine ⟨_, rfl, .ref p10, .ref dv, intsD (ord u' (at_ q' L)), rfl, dp_intT (SqT.of hv10), dp_intT (SqT.frz hd10), pl_ints 18 (by omega), fun H11 s11 => ?_⟩
    refine ⟨true, rfl, iteF ?_⟩
    have jt11 := (jt9.same s10).same s11
    refine ⟨_, rfl, _, rfl, _, rfl, _, rfl, tr, bg, S, Bs, T, u', B, L, now, q', rfl, jt11.j.lt, jt11.j.bg, j.re, hu, con_at j.con hu, j.ht20, j.nd', j.bz', fun H12 v12 s12 hv120 hv12 => ?_⟩
    have hd12 := s12 _ _ (s11 _ _ hd10)
    refine ⟨intsD (ord u' (at_ q' L)), intsD (ord u' (at_ q' L)), dp_intT (SqT.frz hd12), dp_intT (SqT.of hv12), shaped_ints _, shaped_ints _, _, rfl, ?_⟩
    rw [eqv_ints, decide_eq_true rfl]
    refine iteF ?_
    have jt12 := jt11.same s12
    have s912 := s10.trans (s11.trans s12)
    have rn512 := (rn58.trans rn9).same s912
    have hr12 := rn512.at hr5 nrt
    refine ⟨3, rfl, by decide, by decide, fun D2 hD2 => ?_⟩
    have nD2t : D2 ≠ tp := jt12.t.new hD2
    refine lc_range (lo := 0) (n := 3) (fun k H' => Rn K tp ca H12 H' ∧ ∃ ns : List Int, ns.length ≤ k ∧ H' D2 = some (.lst (ns.map V.int))) ⟨Rn.of jt12.t (same_new hD2), [], Nat.le_refl _, by rw [upd_same]; rfl⟩ ?_ ?_
    · rintro k H' hk ⟨rn, ns, hl, hD⟩
      have hrk := rn.at hr12 nrt
      refine ⟨rfl, _, rfl, r, _, rfl, .inr (SqT.of hrk), ?_⟩
      rw [List.length_map]
      refine ⟨_, _, rfl, rfl, _, rfl, ite2 (fun c1 => ?_) fun c1 => ⟨rn, ns, Nat.le_succ_of_le hl, hD⟩⟩
      have c2 : 0 < (ord T L).length := by
        have := of_decide_eq_true c1
        omega
      refine ⟨_, rfl, _, rfl, _, rfl, r, _, rfl, .inr (SqT.of hrk), tp, ca, (ord T L).length, (by rw [List.length_map]; rfl), rn.b, c2, by omega, fun H'' i hi rn2 => ?_⟩
      have hrk2 := rn2.at hrk nrt
      have hD'' := rn2.at hD nD2t
      refine ⟨r, _, _, _, rfl, rfl, SqT.of hrk2, atI_nat (by rw [List.getElem?_map, List.getElem?_eq_getElem hi]; rfl), _, hD'', small1000 (by rw [List.length_map]; omega), (rn.trans rn2).mut hD2, ns ++ [(ord T L)[i]'hi], by rw [List.length_append, List.length_singleton]; omega, ?_⟩
      rw [upd_same, List.map_append]
      rfl
    rintro H13 ⟨rn13, ns, hnl, hD13⟩
    refine ⟨_, rfl, (by show 1 ≤ sizeLine; decide), fun l14 hl14 => ?_⟩
    have s14 := same_new (o := .lst [.int n0]) hl14
    refine ⟨D2, l14, _, _, rfl, rfl, s14 _ _ hD13, upd_same, Nat.le_of_lt (small1000 (by rw [List.length_map, List.length_singleton]; omega)), fun p15 hp15 => ?_⟩
    have s15 := same_new (o := .lst (ns.map V.int ++ [.int n0])) hp15
    have h15 : (upd (upd H13 l14 (.lst [.int n0])) p15 (.lst (ns.map V.int ++ [.int n0]))) p15 = some (.lst ((ns ++ [n0]).map V.int)) := by
      rw [upd_same, List.map_append]
      rfl
    have rn15 := (rn13.same s14).same s15
    revert h15 rn15
    generalize upd (upd H13 l14 (.lst [.int n0])) p15 (.lst (ns.map V.int ++ [.int n0])) = H15
    intro h15 rn15
    have np15 : p15 ≠ tp := fun e => by
      obtain ⟨_, _, _, _, _, z, _⟩ := rn15.b
      rw [← e, h15] at z
      injection z with z
      injection z with z
      exact absurd (congrArg (fun l => l[0]?) z) (by
        unfold tapeL
        cases ns with
        | nil => exact fun y => nomatch y
        | cons _ _ => exact fun y => nomatch y)
    refine ⟨p15, rfl, ⟨_, SqL.of h15⟩, ?_⟩
    refine for_list (K := K) (a := p15) (xs := (ns ++ [n0]).map V.int) (fun i σ H' => ∃ o9 o11 o12 o13, σ = [some (.ref tp), some (.ref tr), some (.ref bg), some (.ref a), some (.int n0), some (.ref r), some (.ref lp), some (.int (T.idx q' : Nat)), some (.ref hA), o9, some (.ref dv), o11, o12, o13] ∧ Rn K tp ca H15 H') ⟨_, _, _, _, rfl, Rn.refl rn15.b⟩ (fun i σ H' _ ⟨_, _, _, _, _, rn⟩ => SqL.of (rn.at h15 np15)) ?_ ?_
    · rintro i x σ H16 hx ⟨o9', o11', o12', o13', rfl, rn16⟩
      rw [List.getElem?_map] at hx
      obtain ⟨y, hy, rfl⟩ := Option.map_eq_some_iff.mp hx
      refine ⟨_, rfl, (by show 3 ≤ sizeLine; decide), fun t17 ht17 => ?_⟩
      have s17 : Same H16 (upd H16 t17 (.tup [.str "refused", .str "number", .int (-1)])) := same_new ht17
      have h17 : (upd H16 t17 (.tup [.str "refused", .str "number", .int (-1)])) t17 = some (.tup [.str "refused", .str "number", .int (-1)]) := upd_same
      revert s17 h17
      generalize upd H16 t17 (.tup [.str "refused", .str "number", .int (-1)]) = H17
      intro s17 h17
      have rn1517 := rn16.same s17
      have jt17 := jt12.rn (rn15.trans rn1517)
      have hd17 := (rn15.trans rn1517).at hd12 ndt
      refine ⟨_, rfl, _, rfl, dv, _, rfl, .inr (SqT.frz hd17), rfl, flat_ints _, _, rfl, ?_⟩
      show (if (inV (V.int y) ((ord u' (at_ q' L)).map V.int)) = true then _ else _ : Prop)
      rw [in_ints]
      by_cases hc : y ∈ ord u' (at_ q' L)
      · rw [decide_eq_true hc]
        refine iteT ?_
        obtain ⟨jx, hj1, hj2⟩ := first_ix hc
        refine ⟨_, rfl, ⟨dv, od, _, rfl, hd17, hod, hoc⟩, _, rfl, dv, _, y, jx, rfl, rfl, SqT.frz hd17, hj1, hj2, ?_⟩
        refine ⟨tp, ca, rfl, jt17.t, fun w2 H18 hw2 rn18 => ?_⟩
        have jt18 := jt17.rn rn18
        obtain ⟨pl, wl, hp1, hp2, hp3'⟩ := ord_mem _ u' _ (Nat.le_refl _) (con_at j.con hu) y hc
        obtain ⟨y0, y1⟩ := j.nm (q' ++ pl) (lf_lv (by rw [(sub_app T q' u' hu pl).1]; exact hp1) hp2) y hp3'
        refine ⟨_, rfl, _, rfl, _, rfl, _, rfl, w2, .ref a, _, _, rfl, .inr ⟨hw2, true, stv_of jt18.j.st, (fun z => nomatch z), fun _ => ⟨a, ta, la, sd, S, Ls, T, L, kv, some (T.idx q' : Nat), some y, rfl, jt18.j.st, j.ht20, j.con, j.se, j.sz', rfl, rfl, (fun z => ?_), (fun _ _ _ _ z => ?_), (fun q'' u'' n' e hu'' e2 _ z => ?_), fun q'' u'' n' j' e hu'' e2 hj' hi' H19 s19 => ?_⟩⟩⟩
        · rw [below_idx hu] at z
          exact nomatch z
        · rw [below_pack y0 y1] at z
          exact nomatch z
        · obtain ⟨rfl, rfl⟩ := idx_sub hu hu'' e
          obtain rfl := Option.some.inj e2
          exact absurd hc z
        obtain ⟨rfl, rfl⟩ := idx_sub hu hu'' e
        obtain rfl := Option.some.inj e2
        have ejx : jx = j' := by
          rcases Nat.lt_trichotomy jx j' with c | c | c
          · exact absurd hj1 (hi' jx c)
          · exact c
          · exact absurd hj' (hj2 j' c)
        subst ejx
        refine ⟨_, rfl, .int _, .int _, .int _, rfl, .int _, .int _, trivial, fun H20 s20 => ⟨true, rfl, iteF ?_⟩⟩
        exact ⟨_, _, _, _, rfl, (rn1517.trans rn18).same (s19.trans s20)⟩
      · rw [decide_eq_false hc]
        refine iteF ?_
        refine ⟨tp, ca, rfl, jt17.t, fun w2 H18 hw2 rn18 => ?_⟩
        have jt18 := jt17.rn rn18
        have nt17 : t17 ≠ tp := fun e => by
          obtain ⟨_, _, _, _, _, z, _⟩ := jt17.t
          rw [← e, h17] at z
          exact nomatch z
        have h18 := rn18.at h17 nt17
        refine ⟨_, rfl, _, rfl, _, rfl, _, rfl, w2, .ref a, _, _, rfl, .inr ⟨hw2, true, stv_of jt18.j.st, (fun z => nomatch z), fun _ => ⟨a, ta, la, sd, S, Ls, T, L, kv, some (T.idx q' : Nat), some y, rfl, jt18.j.st, j.ht20, j.con, j.se, j.sz', rfl, rfl, (fun z => ?_), (fun _ _ _ _ _ v H19 s19 hv => ?_), (fun _ _ _ _ _ _ _ _ v H19 s19 hv => ?_), fun q'' u'' n' j' e hu'' e2 hj' hi' H19 s19 => ?_⟩⟩⟩
        · rw [below_idx hu] at z
          exact nomatch z
        · refine ⟨_, rfl, _, _, _, rfl, hv H19 (fun b u _ h => h), dp_ref (s19 _ _ h18), pl_ref _, fun H20 s20 => ⟨true, rfl, iteF ?_⟩⟩
          exact ⟨_, _, _, _, rfl, (rn1517.trans rn18).same (s19.trans s20)⟩
        · refine ⟨_, rfl, _, _, _, rfl, hv H19 (fun b u _ h => h), dp_ref (s19 _ _ h18), pl_ref _, fun H20 s20 => ⟨true, rfl, iteF ?_⟩⟩
          exact ⟨_, _, _, _, rfl, (rn1517.trans rn18).same (s19.trans s20)⟩
        · obtain ⟨rfl, rfl⟩ := idx_sub hu hu'' e
          obtain rfl := Option.some.inj e2
          exact absurd (List.mem_of_getElem? hj') hc
    · rintro σ H16 ⟨o9', o11', o12', o13', rfl, rn16⟩
      exact ⟨_, _, _, _, _, _, _, rfl, (rn5.trans rn512).trans (rn15.trans rn16)⟩
  · rintro σ H5 ⟨o7, o8, o9, o10, o11, o12, o13, rfl, rn5⟩
    have jt5 := jt4.rn rn5
    obtain ⟨dx5, ob5⟩ := jt5.j.st.obj
    refine ⟨_, rfl, a, dx5, _, rfl, ob5, rfl, a, ta, la, sd, S, Ls, T, L, kv, rfl, jt5.j.st, fun H6 p6 s6 hp6 hdp6 => ?_⟩
    have hdp5 : Dp K (offS S H5) (.ref lp) (linesD T L) := dp_same (rn5.gos.wide fun y hy => by rw [List.mem_singleton.mp hy]; exact jt.tS).s hdp4
    refine ⟨_, rfl, .ref p6, .ref lp, linesD T L, rfl, dp_same offS_same hdp6, dp_same s6 (dp_same offS_same hdp5), pl_lines j.nd' (fun q => by have := j.sz q; have := j.m9; omega) j.st.rk, fun H7 s7 => ?_⟩
    exact q _ ((rn04.trans rn5).same (s6.trans s7))
end
end K26
set_option Elab.async false
set_option linter.all false
set_option maxRecDepth 100000
set_option maxHeartbeats 8000000
namespace K26
open PySem PySem.Spec PyProof.Rows L2 Dt
/-! ### _law_refused -/
def OrdW (w : Str) : Prop := w = "order" ∨ w = "named order"
def PlW (w : Str) : Prop := w = "place" ∨ w = "named place"
section
variable {K : PySem.W.Frag} {C CS : Addr} {S : List Addr} {H H' : Hp} {tr bg : Addr} {Bs : List Addr} {a ta la sd : Addr} {Ls : List Addr} {T : Dt} {B : Bgs} {L : Lns} {kv : List (Key × V)} {now : Int} {m : Nat} {w : Str} {x y z : V} {Q : VK} {E : XK}
theorem bad_standing (hw : OrdW w ∨ PlW w) {t : String} (hk : KindV K H x t) (q : Refd K H Q "standing") : spAsk K C CS [.str w, x, y, z] H Q E :=
  ⟨w, x, y, z, rfl, hw.elim (fun h => .inl ⟨h, false, .inr ⟨rfl, t, hk⟩, fun _ => q, fun z => nomatch z⟩) (fun h => .inr ⟨h, false, .inr ⟨rfl, t, hk⟩, fun _ => q, fun z => nomatch z⟩)⟩
theorem bad_node (j : J K C CS S H tr bg Bs a ta la sd Ls T B L kv now m) (hw : OrdW w ∨ PlW w) {o oz : Option Int} (hy : NumV K H y o) (hb : belowB (T.nodes : Nat) o = false) (hz : NumV K H z oz) (q : Refd K H Q "node") : spAsk K C CS [.str w, .ref a, y, z] H Q E := by
  have no : ∀ q u, o = some ((T.idx q : Nat) : Int) → sub T q = some u → False := fun q' u e hu => by
    rw [e, below_idx hu] at hb
    exact nomatch hb
  refine ⟨w, .ref a, y, z, rfl, ?_⟩
  rcases hw with h | h
  · exact .inl ⟨h, true, stv_of j.st, (fun z => nomatch z), fun _ => ⟨a, ta, la, sd, S, Ls, T, L, kv, o, rfl, j.st, j.ht20, j.con, j.sz', hy, fun _ => q, fun q' u e hu => (no q' u e hu).elim⟩⟩
  · exact .inr ⟨h, true, stv_of j.st, (fun z => nomatch z), fun _ => ⟨a, ta, la, sd, S, Ls, T, L, kv, o, oz, rfl, j.st, j.ht20, j.con, j.se, j.sz', hy, hz, fun _ => q, (fun q' u e hu => (no q' u e hu).elim), (fun q' u n e hu => (no q' u e hu).elim), fun q' u n i e hu => (no q' u e hu).elim⟩⟩
theorem bad_number (j : J K C CS S H tr bg Bs a ta la sd Ls T B L kv now m) (hw : PlW w) {on : Option Int} (hz : NumV K H z on) (hb : belowB packB on = false) (q : Refd K H Q "number") : spAsk K C CS [.str w, .ref a, .int 0, z] H Q E := by
  have e0 : NumV K H (.int 0) (some ((T.idx [] : Nat) : Int)) := by
    rw [idx_nil]
    rfl
  refine ⟨w, .ref a, .int 0, z, rfl, .inr ⟨hw, true, stv_of j.st, (fun z => nomatch z), fun _ => ⟨a, ta, la, sd, S, Ls, T, L, kv, some ((T.idx [] : Nat) : Int), on, rfl, j.st, j.ht20, j.con, j.se, j.sz', e0, hz, (fun z => ?_), (fun _ _ _ _ _ => q), (fun q' u n e hu e2 z => ?_), fun q' u n i e hu e2 hi => ?_⟩⟩⟩
  · rw [below_idx (sub_nil T)] at z
    exact nomatch z
  · exact fun _ => q
  · obtain ⟨rfl, rfl⟩ := idx_sub (sub_nil T) hu e
    have hm := List.mem_of_getElem? hi
    obtain ⟨pl, wl, hp1, hp2, hp3⟩ := ord_mem _ u _ (Nat.le_refl _) (con_at j.con (sub_nil u)) n hm
    obtain ⟨y0, y1⟩ := j.nm pl (lf_lv hp1 hp2) n hp3
    rw [e2, below_pack y0 y1] at hb
    exact nomatch hb
end
theorem num_same {K : PySem.W.Frag} {H H' : Hp} {x : V} {o : Option Int} (e : Same H H') (h : NumV K H x o) : NumV K H' x o := by
  cases o with
  | some i => exact h
  | none =>
    obtain ⟨t, h1, h2⟩ := h
    exact ⟨t, same_kind e h1, h2⟩
def spRefused (K : PySem.W.Frag) (C CS : Addr) : Sp := fun vs H Q _ => ∃ (tr bg a ta la sd : Addr) (S Bs Ls : List Addr) (T : Dt) (B : Bgs) (L : Lns) (kv : List (Key × V)) (now : Int) (m : Nat) (fv : V) (t : String), vs = [.ref tr, .ref a, fv] ∧ J K C CS S H tr bg Bs a ta la sd Ls T B L kv now m ∧ KindV K H fv t ∧ ∀ H', Same H H' → Q (.bl true) H'
section
variable {P : Program} {w : World} {K : PySem.W.Frag} {mg : Str → Option Value} {base : Heap} {C CS U : Addr}
theorem ok_refused (D : DefAt K mg "_law_refused" s_law_refused ["tree", "standing", "form"]) (T0 : Txt K mg) (SC : StCl K CS) (GSame : CalX P w K mg base CX0 20 "_law_same" ["one", "other"] (spSame K 20)) (GAsk : CalX P w K mg base CX0 22 "_law_ask" ["word", "standing", "node", "number"] (spAsk K C CS))
    (MAl : MQ P w K mg base CS 1 "all_lines" ["self"] (spAllL K C CS)) :
    CalX P w K mg base CX0 23 "_law_refused" ["tree", "standing", "form"] (spRefused K C CS) := by
  refine D.ok sc_law_refused (fun vs H Q E h => ?_) (fun f cdv A outer s H vs Q E hr h => ?_)
  · obtain ⟨tr, bg, a, ta, la, sd, S, Bs, Ls, T, B, L, kv, now, m, fv, t, rfl, _⟩ := h
    rfl
  obtain ⟨tr, bg, a, ta, la, sd, S, Bs, Ls, T, B, L, kv, now, m, fv, tf, rfl, j, hfv, q⟩ := h
  refine ⟨_, (pss_cons (ps_set (i := 3) sc_law_refused.nd rfl (.inl rfl) (pe_tup (pa_cons pe_non (pa_cons (pe_slice sl_tupA (pe_m0 (pv 1) SC.cl MAl hr (by decide)) po_none (po_some pe_int)) (pa_cons (pv 2) (pa_cons pe_int (pa_cons pe_bl pa_nil))))))) 
    (pss_cons (ps_for PassesOwn.never rfl (pi_tup (pv 3)) (pg_name (i := 4) sc_law_refused.nd rfl (Or.inl rfl)) 
      (pss_one (ps_for PassesOwn.never rfl (pi_tup (pe_tup (pa_cons pe_str (pa_cons pe_str (pa_cons pe_str (pa_cons pe_str pa_nil)))))) (pg_name (i := 5) sc_law_refused.nd rfl (Or.inl rfl)) 
        (pss_one (ps_if (pt_not (pt_val (pe_c0 GSame hr (by decide) rfl (pa_cons (pe_c0 GAsk hr (by decide) rfl (pa_cons (pv 5) (pa_cons (pv 4) (pa_cons (pe_un un_neg pe_int) (pa_cons pe_bl pa_nil))))) (pa_cons (pe_tup (pa_cons pe_str (pa_cons pe_str (pa_cons (pe_un un_neg pe_int) pa_nil)))) pa_nil))))) 
          (pss_one (ps_ret pe_bl)) pss_nil))))) 
    (pss_cons (ps_for PassesOwn.never rfl (pi_tup (pe_tup (pa_cons (pe_callB call_len_seq (by rfl) T0.len PySem.boot_len (pa_cons (pe_ix ix_list (pv 0) pe_int (fun _ _ => rfl)) pa_nil)) (pa_cons (pe_un un_neg pe_int) (pa_cons pe_bl (pa_cons pe_non (pa_cons (pe_tup (pa_cons pe_int pa_nil)) (pa_cons pe_str pa_nil)))))))) (pg_name (i := 4) sc_law_refused.nd rfl (Or.inl rfl)) 
      (pss_one (ps_for PassesOwn.never rfl (pi_tup (pe_tup (pa_cons pe_str (pa_cons pe_str (pa_cons pe_str (pa_cons pe_str pa_nil)))))) (pg_name (i := 5) sc_law_refused.nd rfl (Or.inl rfl)) 
        (pss_one (ps_if (pt_not (pt_val (pe_c0 GSame hr (by decide) rfl (pa_cons (pe_c0 GAsk hr (by decide) rfl (pa_cons (pv 5) (pa_cons (pv 1) (pa_cons (pv 4) (pa_cons pe_bl pa_nil))))) (pa_cons (pe_tup (pa_cons pe_str (pa_cons pe_str (pa_cons (pe_un un_neg pe_int) pa_nil)))) pa_nil))))) 
          (pss_one (ps_ret pe_bl)) pss_nil))))) 
    (pss_cons (ps_for PassesOwn.never rfl (pi_tup (pe_tup (pa_cons pe_bl (pa_cons pe_bl (pa_cons (pe_un un_neg pe_int) (pa_cons (pe_conv (t' := tC (.int packB)) (pe_op op_shl pe_int pe_int) (shl_of (by decide) (by decide +kernel))) (pa_cons pe_non (pa_cons pe_str (pa_cons (pe_tup (pa_cons pe_int pa_nil)) pa_nil))))))))) (pg_name (i := 4) sc_law_refused.nd rfl (Or.inl rfl)) 
      (pss_one (ps_for PassesOwn.never rfl (pi_tup (pe_tup (pa_cons pe_str (pa_cons pe_str pa_nil)))) (pg_name (i := 5) sc_law_refused.nd rfl (Or.inl rfl)) 
        (pss_one (ps_if (pt_not (pt_val (pe_c0 GSame hr (by decide) rfl (pa_cons (pe_c0 GAsk hr (by decide) rfl (pa_cons (pv 5) (pa_cons (pv 1) (pa_cons pe_int (pa_cons (pv 4) pa_nil))))) (pa_cons (pe_tup (pa_cons pe_str (pa_cons pe_str (pa_cons (pe_un un_neg pe_int) pa_nil)))) pa_nil))))) 
          (pss_one (ps_ret pe_bl)) pss_nil))))) 
    (pss_one (ps_ret pe_bl)))))), ?_⟩
  obtain ⟨dx, ob⟩ := j.st.obj
  refine ⟨_, rfl, a, dx, _, rfl, ob, rfl, a, ta, la, sd, S, Ls, T, L, kv, rfl, j.st, fun H1 p1 s1 hp1 hdp => ?_⟩
  have hd1 := dp_same offS_same hdp
  have j1 := j.same s1
  have hf1 := same_kind s1 hfv
  clear hdp
  cases hd1 with
  | @tup _ ys _ hs _ =>
  refine ⟨_, rfl, ?_⟩
  dsimp only [L2.tNoPart]
  refine rSlA_all hs fun t2 H2 s2 h2 => ?_
  have k2 := kind_sqt h2
  have j2 := j1.same s2
  have hf2 := same_kind s2 hf1
  refine ⟨_, rfl, (by show 5 ≤ sizeLine; decide), fun t3 ht3 => ?_⟩
  have s3 := same_new (o := .tup [.non, .ref t2, fv, .int 0, .bl true]) ht3
  have h3 : (upd H2 t3 (.tup [.non, .ref t2, fv, .int 0, .bl true])) t3 = some (.tup [.non, .ref t2, fv, .int 0, .bl true]) := upd_same
  have k3 := same_kind s3 k2
  have j3 := j2.same s3
  have hf3 := same_kind s3 hf2
  have s13 := s1.trans (s2.trans s3)
  revert h3 k3 j3 hf3 s13
  generalize upd H2 t3 (.tup [.non, .ref t2, fv, .int 0, .bl true]) = H3
  intro h3 k3 j3 hf3 s13
  refine ⟨_, rfl, t3, rfl, ⟨_, SqT.of h3⟩, ?_⟩
  refine for_tup (K := K) (a := t3) (xs := [.non, .ref t2, fv, .int 0, .bl true]) (fun i σ H' => ∃ o4 o5, σ = [some (.ref tr), some (.ref a), some fv, some (.ref t3), o4, o5] ∧ Same H3 H') ⟨_, _, rfl, fun y o h => h⟩ (fun i σ H' _ ⟨_, _, _, s⟩ => SqT.of (s _ _ h3)) ?_ ?_
  · rintro i x σ H4 hx ⟨o4, o5, rfl, s4⟩
    have hk4 : ∃ t, KindV K H4 x t := by
      have := List.mem_of_getElem? hx
      rcases List.mem_cons.mp this with rfl | this
      · exact ⟨_, kind_non⟩
      rcases List.mem_cons.mp this with rfl | this
      · exact ⟨_, same_kind s4 k3⟩
      rcases List.mem_cons.mp this with rfl | this
      · exact ⟨_, same_kind s4 hf3⟩
      rcases List.mem_cons.mp this with rfl | this
      · exact ⟨_, kind_int 0⟩
      rcases List.mem_cons.mp this with rfl | this
      · exact ⟨_, kind_bl true⟩
      · exact nomatch this
    obtain ⟨t4, hk4⟩ := hk4
    refine ⟨(by show 4 ≤ sizeLine; decide), fun t5 ht5 => ⟨t5, rfl, ⟨_, SqT.of upd_same⟩, ?_⟩⟩
    refine for_tup (K := K) (a := t5) (xs := [.str "order", .str "named order", .str "place", .str "named place"]) (fun i σ H' => ∃ o5, σ = [some (.ref tr), some (.ref a), some fv, some (.ref t3), some x, o5] ∧ Same (upd H4 t5 (.tup [.str "order", .str "named order", .str "place", .str "named place"])) H') ⟨_, rfl, fun y o h => h⟩ (fun i σ H' _ ⟨_, _, s⟩ => SqT.of (s _ _ upd_same)) ?_ ?_
    · rintro i z σ H6 hz ⟨o5', rfl, s6⟩
      have hw : ∃ w, z = .str w ∧ (OrdW w ∨ PlW w) := by
        have := List.mem_of_getElem? hz
        rcases List.mem_cons.mp this with rfl | this
        · exact ⟨_, rfl, .inl (.inl rfl)⟩
        rcases List.mem_cons.mp this with rfl | this
        · exact ⟨_, rfl, .inl (.inr rfl)⟩
        rcases List.mem_cons.mp this with rfl | this
        · exact ⟨_, rfl, .inr (.inl rfl)⟩
        rcases List.mem_cons.mp this with rfl | this
        · exact ⟨_, rfl, .inr (.inr rfl)⟩
        · exact nomatch this
      obtain ⟨w0, rfl, hw⟩ := hw
      have s46 := (same_new (o := .tup [.str "order", .str "named order", .str "place", .str "named place"]) ht5).trans s6
      refine ⟨_, rfl, _, rfl, _, rfl, bad_standing (E := E0) hw (same_kind s46 hk4) fun v H7 s7 hv => ?_⟩
      refine ⟨_, rfl, (by show 3 ≤ sizeLine; decide), fun t8 ht8 => ?_⟩
      have s8 := same_new (o := .tup [.str "refused", .str "standing", .int (-1)]) ht8
      refine ⟨_, _, _, rfl, hv _ (fun b u _ h => s8 b u h), dp_ref upd_same, pl_ref _, fun H9 s9 => ⟨true, rfl, iteF ?_⟩⟩
      exact ⟨_, rfl, s6.trans (s7.trans (s8.trans s9))⟩
    · rintro σ H6 ⟨o5', rfl, s6⟩
      exact ⟨_, _, rfl, s4.trans ((same_new ht5).trans s6)⟩
  rintro σ H4 ⟨o4, o5, rfl, s4⟩
  have j4 := j3.same s4
  obtain ⟨nl, kd, pl, ns, ps, kvs, t1, t2', t3', _⟩ := (j4.lt.same offS_same).ex
  refine ⟨_, rfl, tr, _, 0, _, rfl, rfl, SqL.of t1, rfl, nl, ns, rfl, .inl (SqL.of t2'), ?_⟩
  refine ⟨_, rfl, (by show 1 ≤ sizeLine; decide), fun t6 ht6 => ?_⟩
  have s6 := same_new (o := .tup [.int 0]) ht6
  have k6 : KindV K (upd H4 t6 (.tup [.int 0])) (.ref t6) "tuple" := kind_tup upd_same
  have j6 := j4.same s6
  have s36 := s4.trans s6
  revert k6 j6 s36
  generalize upd H4 t6 (.tup [.int 0]) = H6
  intro k6 j6 s36
  refine ⟨(by show 6 ≤ sizeLine; decide), fun t9 ht9 => ⟨t9, rfl, ⟨_, SqT.of upd_same⟩, ?_⟩⟩
  have s9 := same_new (o := .tup [.int (ns.length : Nat), .int (-1), .bl true, .non, .ref t6, .str "0"]) ht9
  have h9 : (upd H6 t9 (.tup [.int (ns.length : Nat), .int (-1), .bl true, .non, .ref t6, .str "0"])) t9 = some (.tup [.int (ns.length : Nat), .int (-1), .bl true, .non, .ref t6, .str "0"]) := upd_same
  have j9 := j6.same s9
  have k9 := same_kind s9 k6
  have s39 := s36.trans s9
  revert h9 j9 k9 s39
  generalize upd H6 t9 (.tup [.int (ns.length : Nat), .int (-1), .bl true, .non, .ref t6, .str "0"]) = H9
  intro h9 j9 k9 s39
  refine for_tup (K := K) (a := t9) (xs := [.int (ns.length : Nat), .int (-1), .bl true, .non, .ref t6, .str "0"]) (fun i σ H' => ∃ o4 o5, σ = [some (.ref tr), some (.ref a), some fv, some (.ref t3), o4, o5] ∧ Same H9 H') ⟨_, _, rfl, fun y o h => h⟩ (fun i σ H' _ ⟨_, _, _, s⟩ => SqT.of (s _ _ h9)) ?_ ?_
  · rintro i x σ H10 hx ⟨o4', o5', rfl, s10⟩
    have hb : ∃ o, NumV K H10 x o ∧ belowB (T.nodes : Nat) o = false := by
      have := List.mem_of_getElem? hx
      rcases List.mem_cons.mp this with rfl | this
      · refine ⟨some (ns.length : Nat), rfl, ?_⟩
        rw [t3']
        show (decide ((0 : Int) ≤ (T.nodes : Nat)) && decide (((T.nodes : Nat) : Int) < (T.nodes : Nat))) = false
        rw [decide_eq_false (Int.lt_irrefl _), Bool.and_false]
      rcases List.mem_cons.mp this with rfl | this
      · refine ⟨some (-1), rfl, ?_⟩
        show (decide ((0 : Int) ≤ -1) && decide ((-1 : Int) < (T.nodes : Nat))) = false
        rw [decide_eq_false (by decide), Bool.false_and]
      rcases List.mem_cons.mp this with rfl | this
      · exact ⟨none, ⟨_, kind_bl true, by decide⟩, rfl⟩
      rcases List.mem_cons.mp this with rfl | this
      · exact ⟨none, ⟨_, kind_non, by decide⟩, rfl⟩
      rcases List.mem_cons.mp this with rfl | this
      · exact ⟨none, ⟨_, same_kind s10 k9, by decide⟩, rfl⟩
      rcases List.mem_cons.mp this with rfl | this
      · exact ⟨none, ⟨_, kind_str _, by decide⟩, rfl⟩
      · exact nomatch this
    obtain ⟨o, hn, hb⟩ := hb
    refine ⟨(by show 4 ≤ sizeLine; decide), fun t5 ht5 => ⟨t5, rfl, ⟨_, SqT.of upd_same⟩, ?_⟩⟩
    refine for_tup (K := K) (a := t5) (xs := [.str "order", .str "named order", .str "place", .str "named place"]) (fun i σ H' => ∃ o5, σ = [some (.ref tr), some (.ref a), some fv, some (.ref t3), some x, o5] ∧ Same (upd H10 t5 (.tup [.str "order", .str "named order", .str "place", .str "named place"])) H') ⟨_, rfl, fun y o h => h⟩ (fun i σ H' _ ⟨_, _, s⟩ => SqT.of (s _ _ upd_same)) ?_ ?_
    · rintro i z σ H6 hz ⟨o5', rfl, s6⟩
      have hw : ∃ w, z = .str w ∧ (OrdW w ∨ PlW w) := by
        have := List.mem_of_getElem? hz
        rcases List.mem_cons.mp this with rfl | this
        · exact ⟨_, rfl, .inl (.inl rfl)⟩
        rcases List.mem_cons.mp this with rfl | this
        · exact ⟨_, rfl, .inl (.inr rfl)⟩
        rcases List.mem_cons.mp this with rfl | this
        · exact ⟨_, rfl, .inr (.inl rfl)⟩
        rcases List.mem_cons.mp this with rfl | this
        · exact ⟨_, rfl, .inr (.inr rfl)⟩
        · exact nomatch this
      obtain ⟨w0, rfl, hw⟩ := hw
      have s46 := (same_new (o := .tup [.str "order", .str "named order", .str "place", .str "named place"]) ht5).trans s6
      refine ⟨_, rfl, _, rfl, _, rfl, bad_node (E := E0) ((j9.same s10).same s46) hw (num_same s46 hn) hb (show NumV K _ (.bl true) none from ⟨_, kind_bl true, by decide⟩) fun v H7 s7 hv => ?_⟩
      refine ⟨_, rfl, (by show 3 ≤ sizeLine; decide), fun t8 ht8 => ?_⟩
      have s8 := same_new (o := .tup [.str "refused", .str "node", .int (-1)]) ht8
      refine ⟨_, _, _, rfl, hv _ (fun b u _ h => s8 b u h), dp_ref upd_same, pl_ref _, fun H9 s9 => ⟨true, rfl, iteF ?_⟩⟩
      exact ⟨_, rfl, s6.trans (s7.trans (s8.trans s9))⟩
    · rintro σ H6 ⟨o5', rfl, s6⟩
      exact ⟨_, _, rfl, s10.trans ((same_new ht5).trans s6)⟩
  rintro σ H10 ⟨o4', o5', rfl, s10⟩
  have j10 := j9.same s10
  refine ⟨_, rfl, (by show 1 ≤ sizeLine; decide), fun t7 ht7 => ?_⟩
  have s11 := same_new (o := .tup [.int 1]) ht7
  have k11 : KindV K (upd H10 t7 (.tup [.int 1])) (.ref t7) "tuple" := kind_tup upd_same
  have j11 := j10.same s11
  have s311 := s39.trans (s10.trans s11)
  revert k11 j11 s311
  generalize upd H10 t7 (.tup [.int 1]) = H11
  intro k11 j11 s311
  refine ⟨(by show 7 ≤ sizeLine; decide), fun t9 ht9 => ⟨t9, rfl, ⟨_, SqT.of upd_same⟩, ?_⟩⟩
  have s12 := same_new (o := .tup [.bl true, .bl false, .int (-1), .int packB, .non, .str "1", .ref t7]) ht9
  have h12 : (upd H11 t9 (.tup [.bl true, .bl false, .int (-1), .int packB, .non, .str "1", .ref t7])) t9 = some (.tup [.bl true, .bl false, .int (-1), .int packB, .non, .str "1", .ref t7]) := upd_same
  have j12 := j11.same s12
  have k12 := same_kind s12 k11
  have s312 := s311.trans s12
  revert h12 j12 k12 s312
  generalize upd H11 t9 (.tup [.bl true, .bl false, .int (-1), .int packB, .non, .str "1", .ref t7]) = H12
  intro h12 j12 k12 s312
  refine for_tup (K := K) (a := t9) (xs := [.bl true, .bl false, .int (-1), .int packB, .non, .str "1", .ref t7]) (fun i σ H' => ∃ o4 o5, σ = [some (.ref tr), some (.ref a), some fv, some (.ref t3), o4, o5] ∧ Same H12 H') ⟨_, _, rfl, fun y o h => h⟩ (fun i σ H' _ ⟨_, _, _, s⟩ => SqT.of (s _ _ h12)) ?_ ?_
  · rintro i x σ H13 hx ⟨o4'', o5'', rfl, s13'⟩
    have hb : ∃ o, NumV K H13 x o ∧ belowB packB o = false := by
      have := List.mem_of_getElem? hx
      rcases List.mem_cons.mp this with rfl | this
      · exact ⟨none, ⟨_, kind_bl true, by decide⟩, rfl⟩
      rcases List.mem_cons.mp this with rfl | this
      · exact ⟨none, ⟨_, kind_bl false, by decide⟩, rfl⟩
      rcases List.mem_cons.mp this with rfl | this
      · exact ⟨some (-1), rfl, by decide +kernel⟩
      rcases List.mem_cons.mp this with rfl | this
      · exact ⟨some packB, rfl, by decide +kernel⟩
      rcases List.mem_cons.mp this with rfl | this
      · exact ⟨none, ⟨_, kind_non, by decide⟩, rfl⟩
      rcases List.mem_cons.mp this with rfl | this
      · exact ⟨none, ⟨_, kind_str _, by decide⟩, rfl⟩
      rcases List.mem_cons.mp this with rfl | this
      · exact ⟨none, ⟨_, same_kind s13' k12, by decide⟩, rfl⟩
      · exact nomatch this
    obtain ⟨o, hn, hb⟩ := hb
    refine ⟨(by show 2 ≤ sizeLine; decide), fun t5 ht5 => ⟨t5, rfl, ⟨_, SqT.of upd_same⟩, ?_⟩⟩
    refine for_tup (K := K) (a := t5) (xs := [.str "place", .str "named place"]) (fun i σ H' => ∃ o5, σ = [some (.ref tr), some (.ref a), some fv, some (.ref t3), some x, o5] ∧ Same (upd H13 t5 (.tup [.str "place", .str "named place"])) H') ⟨_, rfl, fun y o h => h⟩ (fun i σ H' _ ⟨_, _, s⟩ => SqT.of (s _ _ upd_same)) ?_ ?_
    · rintro i z σ H6 hz ⟨o5', rfl, s6⟩
      have hw : ∃ w, z = .str w ∧ (PlW w) := by
        have := List.mem_of_getElem? hz
        rcases List.mem_cons.mp this with rfl | this
        · exact ⟨_, rfl, .inl rfl⟩
        rcases List.mem_cons.mp this with rfl | this
        · exact ⟨_, rfl, .inr rfl⟩
        · exact nomatch this
      obtain ⟨w0, rfl, hw⟩ := hw
      have s46 := (same_new (o := .tup [.str "place", .str "named place"]) ht5).trans s6
      refine ⟨_, rfl, _, rfl, _, rfl, bad_number (E := E0) ((j12.same s13').same s46) hw (num_same s46 hn) hb fun v H7 s7 hv => ?_⟩
      refine ⟨_, rfl, (by show 3 ≤ sizeLine; decide), fun t8 ht8 => ?_⟩
      have s8 := same_new (o := .tup [.str "refused", .str "number", .int (-1)]) ht8
      refine ⟨_, _, _, rfl, hv _ (fun b u _ h => s8 b u h), dp_ref upd_same, pl_ref _, fun H9 s9 => ⟨true, rfl, iteF ?_⟩⟩
      exact ⟨_, rfl, s6.trans (s7.trans (s8.trans s9))⟩
    · rintro σ H6 ⟨o5', rfl, s6⟩
      exact ⟨_, _, rfl, s13'.trans ((same_new ht5).trans s6)⟩
  rintro σ H13 ⟨o4'', o5'', rfl, s13'⟩
  exact q _ (s13.trans (s312.trans s13'))
end
end K26
set_option Elab.async false
set_option linter.all false
set_option maxRecDepth 100000
set_option maxHeartbeats 8000000
namespace K26
open PySem PySem.Spec PyProof.Rows L2 Dt
/-! ### law -/
theorem LawT.off {K : PySem.W.Frag} {H : Hp} {tr tp ca : Addr} {T : Dt} {i b s : Int} (t : LawT K H tr T) (h : H tp = some (.lst (tapeL ca i b s))) : LawT K (offS [tp] H) tr T := by
  obtain ⟨nl, kd, pl, ns, ps, kvs, h1, h2, h3, h4, h5, h6, h7, h8, h9⟩ := t.ex
  have of : ∀ {y o}, H y = some o → (∀ xs, o = .lst xs → xs ≠ tapeL ca i b s) → offS [tp] H y = some o := fun {y o} e n => by
    rw [offS_ne (fun z => ?_)]
    · exact e
    · rw [List.mem_singleton.mp z, h] at e
      exact n _ (Option.some.inj e).symm rfl
  have nl_ne : ns ≠ tapeL ca i b s := fun z => by
    have hl := congrArg List.length z
    rw [h3] at hl
    have hl4 : T.nodes = 4 := hl
    have : (1 : Nat) < (ad T).length := by rw [ad_len, hl4]; decide
    have hq : (ad T)[1]? = some ((ad T)[1]'this) := List.getElem?_eq_getElem this
    obtain ⟨u, hu⟩ := ad_sub (List.mem_of_getElem? hq)
    obtain ⟨c, g1, _⟩ := h4 _ u hu
    rw [idx_of hq, z] at g1
    exact nomatch g1
  have pl_ne : ps ≠ tapeL ca i b s := fun z => by
    have hl := congrArg List.length z
    rw [h8] at hl
    have hl4 : (lv T).length = 4 := hl
    have : (1 : Nat) < (lv T).length := by rw [hl4]; decide
    obtain ⟨c, g1, _⟩ := h9 1 _ (List.getElem?_eq_getElem this)
    rw [z] at g1
    exact nomatch g1
  refine ⟨nl, kd, pl, ns, ps, kvs, of h1 (fun xs e => ?_), of h2 (fun xs e => ?_), h3, fun q u hq => ?_, of h5 (fun xs e => nomatch e), h6, of h7 (fun xs e => ?_), h8, fun k p hp => ?_⟩
  · injection e with e
    rw [← e]
    exact fun z => nomatch congrArg List.length z
  · injection e with e
    rw [← e]
    exact nl_ne
  · obtain ⟨c, g1, g2⟩ := h4 q u hq
    exact ⟨c, g1, of g2 fun xs e => nomatch e⟩
  · injection e with e
    rw [← e]
    exact pl_ne
  · obtain ⟨c, g1, g2⟩ := h9 k p hp
    refine ⟨c, g1, of g2 fun xs e => ?_⟩
    injection e with e
    rw [← e]
    intro z
    have := congrArg (fun l => l[0]?) z
    have h0 := pth_at (T := T) (p := p) (n := p.length + 1) (k := 0) (by omega)
    have h1 : (pth T p (p.length + 1))[0]? = (tapeL ca i b s)[0]? := this
    rw [h0] at h1
    exact nomatch h1
abbrev stL (v0 : V) (tp : Addr) (fv : V) (tr : Addr) (o4 : Option V) (bg a : Addr) (mn : Nat) (o8 o9 o10 o11 o12 o13 o14 : Option V) : L2.St := [some v0, some (.ref tp), some fv, some (.ref tr), o4, some (.ref bg), some (.ref a), some (.int (mn : Nat)), o8, o9, o10, o11, o12, o13, o14]
/-- how many steps: at most seventy -/
def tMany (K : PySem.W.Frag) : TS := fun D σ H => ∃ v0 tp ca fv tr o4 bg a mn mm o9 o10 o11 o12 o13 o14, σ = stL v0 tp fv tr o4 bg a mn (some (.int (mm : Nat))) o9 o10 o11 o12 o13 o14 ∧ mm ≤ 70 ∧ Tape K H tp ca ∧ ∀ (m2 : Nat) H', m2 ≤ 70 → Rn K tp ca H H' → D.nx (stL v0 tp fv tr o4 bg a mn (some (.int (m2 : Nat))) o9 o10 o11 o12 o13 o14) H'
/-- the numbers that are used -/
structure BaseOK (b s : Int) : Prop where
  lo : -2 ^ 64 < s ∧ s < 2 ^ 64
  rg : ∀ k : Nat, k ≤ 75 → 0 ≤ b + s * k ∧ b + s * k < packB
  ne : s ≠ 0
theorem BaseOK.inj {b s : Int} (h : BaseOK b s) {k l : Nat} (e : b + s * k = b + s * l) : k = l := by
  have h1 : s * ((k : Int) - l) = 0 := by
    rw [Int.mul_sub]
    omega
  rcases Int.mul_eq_zero.mp h1 with z | z
  · exact absurd z h.ne
  · omega
def tBase (K : PySem.W.Frag) : TS := fun D σ H => ∃ v0 tp ca fv tr o4 bg a mn o8 o9 o10 o11 o12 o13 o14, σ = stL v0 tp fv tr o4 bg a mn o8 o9 o10 o11 o12 o13 o14 ∧ Tape K H tp ca ∧ ∀ (b s : Int) H', BaseOK b s → Rn K tp ca H H' → D.nx (stL v0 tp fv tr o4 bg a mn o8 (some (.int b)) (some (.int s)) o11 o12 o13 o14) H'
theorem base_ok {b s : Int} (h : (-2 ^ 64 < s ∧ s < 2 ^ 64) ∧ s ≠ 0 ∧ 0 ≤ b ∧ b < packB ∧ 0 ≤ b + s * 75 ∧ b + s * 75 < packB) : BaseOK b s := by
  obtain ⟨h1, h2, h3, h4, h5, h6⟩ := h
  refine ⟨h1, fun k hk => ?_, h2⟩
  have hk' : (k : Int) ≤ 75 := by omega
  have hk0 : (0 : Int) ≤ k := by omega
  rcases Int.lt_or_le s 0 with c | c
  · have e1 : s * 75 ≤ s * k := Int.mul_le_mul_of_nonpos_left (Int.le_of_lt c) hk'
    have e2 : s * k ≤ 0 := Int.mul_nonpos_of_nonpos_of_nonneg (Int.le_of_lt c) hk0
    omega
  · have e1 : s * k ≤ s * 75 := Int.mul_le_mul_of_nonneg_left hk' c
    have e2 : 0 ≤ s * k := Int.mul_nonneg c hk0
    omega
theorem JT.of {K : PySem.W.Frag} {C CS : Addr} {S : List Addr} {H H' : Hp} {tp ca tr bg : Addr} {Bs : List Addr} {a ta la sd : Addr} {Ls : List Addr} {T : Dt} {B B' : Bgs} {L L' : Lns} {kv kv' : List (Key × V)} {now now' : Int} {m m' : Nat} (jt : JT K C CS S H tp ca tr bg Bs a ta la sd Ls T B L kv now m) (j : J K C CS S H' tr bg Bs a ta la sd Ls T B' L' kv' now' m') (g : GoS (Bs ++ (sd :: Ls)) H H') : JT K C CS S H' tp ca tr bg Bs a ta la sd Ls T B' L' kv' now' m' := by
  have sub : ∀ y ∈ Bs ++ (sd :: Ls), y ∈ S := fun y hy => (List.mem_append.mp hy).elim (j.bg.sub y) (j.st.sub y)
  refine ⟨j, ?_, jt.tS, jt.tB, jt.tL, jt.cS⟩
  obtain ⟨cs, i, b, s, h1, h2, h3, h4⟩ := jt.t
  exact ⟨cs, i, b, s, h1, g.at h2 (fun z => (List.mem_append.mp z).elim jt.tB jt.tL), g.at h3 (fun z => jt.cS (sub _ z)), h4⟩
theorem JT.later {K : PySem.W.Frag} {C CS : Addr} {S : List Addr} {H : Hp} {tp ca tr bg : Addr} {Bs : List Addr} {a ta la sd : Addr} {Ls : List Addr} {T : Dt} {B : Bgs} {L : Lns} {kv : List (Key × V)} {now : Int} {m : Nat} (jt : JT K C CS S H tp ca tr bg Bs a ta la sd Ls T B L kv now m) {n2 : Int} (hn : now ≤ n2) : JT K C CS S H tp ca tr bg Bs a ta la sd Ls T B L kv n2 m := by
  have j := jt.j
  exact ⟨⟨j.lt, j.bg, j.st, fun q hq => (j.re q hq).later hn, j.con, j.se, j.gd, j.ht, j.nd, j.sm, j.sz, j.bz, j.nm, j.dj, j.m9⟩, jt.t, jt.tS, jt.tB, jt.tL, jt.cS⟩
theorem its_cut {p q : Ad} {L : Lns} {n : Int} (h : n ∈ its (cutL p L q)) : n ∈ its (L q) := by
  unfold cutL at h
  by_cases c : q <+: p
  · rw [if_pos c] at h
    obtain ⟨e, he, rfl⟩ := List.mem_map.mp h
    exact List.mem_map_of_mem (List.mem_of_mem_tail he)
  · rw [if_neg c] at h
    exact h
theorem its_psh {p q : Ad} {rs : List (List Int)} {T : Dt} {L : Lns} {n x : Int} (hp : p ∈ lv T) (hq : q ∈ lv T) (h : x ∈ its (pshL p rs n L q)) : x = n ∨ x ∈ its (L q) := by
  by_cases e : q = p
  · subst e
    exact List.mem_cons.mp ((pshL_self q rs n L).mem_iff.mp h)
  · rw [pshL_leaf hp hq e] at h
    exact .inr h
def tLk (K : PySem.W.Frag) (C CS : Addr) : TS := fun D σ H => ∃ v0 tp ca fv tr o4 bg a mn mm b s lk r1 r2 k o13 o14 ta la sd S Bs Ls T B L kv now m, σ = stL v0 tp fv tr o4 bg a mn (some (.int (mm : Nat))) (some (.int b)) (some (.int s)) (some (.ref lk)) (some (.int (k : Nat))) o13 o14 ∧ BaseOK b s ∧ H lk = some (.tup [.int (r1 : Nat), .int (r2 : Nat)]) ∧ JT K C CS S H tp ca tr bg Bs a ta la sd Ls T B L kv now m ∧ ∀ H', Rn K tp ca H H' → D.nx (stL v0 tp fv tr o4 bg a mn (some (.int (mm : Nat))) (some (.int b)) (some (.int s)) (some (.ref lk)) (some (.int (k : Nat))) o13 o14) H'
def spLaw (K : PySem.W.Frag) : Sp := fun vs H Q _ => ∃ (a : Addr) (ns : List Int), vs = [.ref a] ∧ SqL K H a (ns.map V.int) ∧ ns.length ≤ 63 ∧ ∀ H', Q (.bl true) H'
section
variable {P : Program} {w : World} {K : PySem.W.Frag} {mg : Str → Option Value} {base : Heap} {C CS U fS : Addr} {fdS : FuncData} {fL : Addr} {fdL : FuncData}
theorem ok_law (F : Fun K "law" "law" s_law fL fdL) (T0 : Txt K mg) (SC : StCl K CS) (MS : Mk K CS fS) (gS : mg "Standing" = some (.ref CS)) (bS : Binds K fdS ["self", "form"] []) (FS : FnOk P w K mg base CX0 24 fS fdS ["self", "form"] (spMadeQ K C CS))
    (GTape : CalX P w K mg base CX0 1 "_law_tape" ["script"] (spTape K)) (GForm : CalX P w K mg base CX0 2 "_law_form" ["tape"] (spForm K)) (GTree : CalX P w K mg base CX0 1 "_law_tree" ["form"] (spTree K)) (GDraw : CalX P w K mg base CX0 1 "_law_draw" ["tape", "many"] (spDraw K)) (GSame : CalX P w K mg base CX0 20 "_law_same" ["one", "other"] (spSame K 20))
    (GLooks : CalX P w K mg base CX0 23 "_law_looks" ["tape", "tree", "bags", "standing", "absent"] (spLooks K C CS)) (GTake : CalX P w K mg base CX0 1 "_law_take" ["tree", "bags", "start"] (spTake K)) (GRank : CalX P w K mg base CX0 2 "_law_rank" ["tape", "manner"] (spMkRank K)) (GPush : CalX P w K mg base CX0 1 "_law_push" ["tree", "bags", "came", "packet", "queue", "ranks"] (spPsh K))
    (GDeparted : CalX P w K mg base CX0 28 "_law_departed" ["tree", "bags", "standing"] (spDeparted K C CS)) (GLast : CalX P w K mg base CX0 28 "_law_last" ["tape", "tree", "bags", "standing", "packet"] (spLast K C CS)) (GRefused : CalX P w K mg base CX0 23 "_law_refused" ["tree", "standing", "form"] (spRefused K C CS))
    (MDe : MQ P w K mg base CS 5 "depart" ["self"] (spDepart K C CS)) (MPu : MQ P w K mg base CS 5 "push" ["self", "number", "queue", "ranks"] (spPushQ K C CS)) :
    FnOk P w K mg base CX0 29 fL fdL ["script"] (spLaw K) := by
  refine F.ok sc_law (fun vs H Q E h => ?_) (fun cdv A outer s H vs Q E hr h => ?_)
  · obtain ⟨a, ns, rfl, _⟩ := h
    rfl
  obtain ⟨sa, ns, rfl, hs, hnl, q⟩ := h
  refine ⟨_, (pss_cons (ps_set (i := 1) sc_law.nd rfl (.inr rfl) (pe_c0 GTape hr (by decide) rfl (pa_cons (pv 0) pa_nil))) 
    (pss_cons (ps_set (i := 2) sc_law.nd rfl (.inl rfl) (pe_c0 GForm hr (by decide) rfl (pa_cons (pv 1) pa_nil))) 
    (pss_cons (ps_set (i := 3) sc_law.nd rfl (.inl rfl) (pe_c0 GTree hr (by decide) rfl (pa_cons (pv 2) pa_nil))) 
    (pss_cons (ps_setLc (i := 5) (own := [("node", 4)]) (g := gName 4) (tt := tYes) (by rfl) sc_law.nd rfl (by rfl) (sw_true rfl rfl rfl (by decide +kernel)) (pi_list (pe_ix ix_list (pv 3) pe_int (fun _ _ => rfl))) (blkOk_by (own := [("node", 4)]) (N := N_law) (sc := defScope s_law) (by decide +kernel)) (fun _ _ _ _ _ => pg_name (i := 4) sc_law.nd rfl (Or.inl rfl)) (fun _ _ _ _ _ => pts_nil) (fun _ _ _ _ _ => by exact (pe_lst pa_nil))) 
    (pss_cons (ps_set (i := 6) sc_law.nd rfl (.inl rfl) (pe_make MS FS (hr.mono (by decide)) rfl gS bS .nil pass0 (pa_cons (pv 2) pa_nil))) 
    (pss_cons (ps_set (i := 7) sc_law.nd rfl (.inr rfl) (pe_c0 GDraw hr (by decide) rfl (pa_cons (pv 1) (pa_cons pe_int pa_nil)))) 
    (pss_cons (ps_set (i := 8) sc_law.nd rfl (.inl rfl) (pe_c0 GDraw hr (by decide) rfl (pa_cons (pv 1) (pa_cons pe_int pa_nil)))) 
    (pss_cons (ps_conv (t' := tMany K) (ps_if (pt_cmpR op_eq (pe_c0 GDraw hr (by decide) rfl (pa_cons (pv 1) (pa_cons pe_int pa_nil))) pe_int (nomark _)) 
      (pss_one (ps_set (i := 8) sc_law.nd rfl (.inl rfl) (pe_op op_add pe_int (pe_c0 GDraw hr (by decide) rfl (pa_cons (pv 1) (pa_cons pe_int pa_nil)))))) pss_nil) (by
      rintro D σ H ⟨v0, tp, ca, fv, tr, o4, bg, a, mn, mm, o9, o10, o11, o12, o13, o14, rfl, hm, ht, q⟩
      refine ⟨_, rfl, tp, ca, 8, rfl, ht, by decide, by decide, fun H1 r hr rn => ?_⟩
      refine ⟨rfl, _, rfl, ite2 (fun _ => ?_) fun _ => q mm H1 hm rn⟩
      refine ⟨_, rfl, tp, ca, 31, rfl, rn.b, by decide, by decide, fun H2 r2 hr2 rn2 => ⟨40, _, rfl, rfl, ?_⟩⟩
      exact q (40 + r2) H2 (by omega) (rn.trans rn2))) 
    (pss_cons (ps_conv (t' := tBase K) (ps_asg (pe_ix ix_tup (pe_tup (pa_cons (pe_tup (pa_cons pe_int (pa_cons pe_int pa_nil))) (pa_cons (pe_tup (pa_cons pe_int (pa_cons pe_int pa_nil))) (pa_cons (pe_tup (pa_cons pe_int (pa_cons (pe_un un_neg pe_int) pa_nil))) (pa_cons (pe_tup (pa_cons (pe_conv (t' := tC (.int 1152921504606846975)) (pe_op op_sub (pe_conv (t' := tC (.int packB)) (pe_op  op_shl pe_int pe_int) (shl_of (by decide) (by decide +kernel))) pe_int) (fun σ H Q q => ⟨packB, 1, rfl, rfl, q⟩)) (pa_cons (pe_un un_neg pe_int) pa_nil))) (pa_cons (pe_tup (pa_cons pe_int (pa_cons (pe_conv (t' := tC (.int 4503599627370496)) (pe_op op_shl pe_int pe_int) (shl_of (by decide) (by decide +kernel))) pa_nil))) pa_nil)))))) (pe_c0 GDraw hr (by decide) rfl (pa_cons (pv 1) (pa_cons pe_int pa_nil))) (fun _ _ => rfl)) (pg_tup (by rfl) (pgs_cons (pg_name (i := 9) sc_law.nd rfl (Or.inl rfl)) (pgs_cons (pg_name (i := 10) sc_law.nd rfl (Or.inl rfl)) pgs_nil)))) (by
      rintro D σ H ⟨v0, tp, ca, fv, tr, o4, bg, a, mn, o8, o9, o10, o11, o12, o13, o14, rfl, ht, q⟩
      refine ⟨(by show 2 ≤ sizeLine; decide), fun t1 ht1 => ⟨(by show 2 ≤ sizeLine; decide), fun t2 ht2 => ⟨_, rfl, (by show 2 ≤ sizeLine; decide), fun t3 ht3 => ⟨_, rfl, (by show 2 ≤ sizeLine; decide), fun t4 ht4 => ⟨(by show 2 ≤ sizeLine; decide), fun t5 ht5 => ⟨(by show 5 ≤ sizeLine; decide), fun t6 ht6 => ?_⟩⟩⟩⟩⟩⟩
      have e1 := same_new (o := .tup [.int 0, .int 1]) ht1
      have e2 := same_new (o := .tup [.int 1, .int 3]) ht2
      have e3 := same_new (o := .tup [.int 400, .int (-5)]) ht3
      have e4 := same_new (o := .tup [.int 1152921504606846975, .int (-7)]) ht4
      have e5 := same_new (o := .tup [.int 0, .int 4503599627370496]) ht5
      have e6 := same_new (o := .tup [.ref t1, .ref t2, .ref t3, .ref t4, .ref t5]) ht6
      have g6 : (upd (upd (upd (upd (upd (upd H t1 (.tup [.int 0, .int 1])) t2 (.tup [.int 1, .int 3])) t3 (.tup [.int 400, .int (-5)])) t4 (.tup [.int 1152921504606846975, .int (-7)])) t5 (.tup [.int 0, .int 4503599627370496])) t6 (.tup [.ref t1, .ref t2, .ref t3, .ref t4, .ref t5])) t6 = some (.tup [.ref t1, .ref t2, .ref t3, .ref t4, .ref t5]) := upd_same
      have g5 := e6 _ _ (show _ = some (HO.tup [.int 0, .int 4503599627370496]) from upd_same)
      have g4 := e6 _ _ (e5 _ _ (show _ = some (HO.tup [.int 1152921504606846975, .int (-7)]) from upd_same))
      have g3 := e6 _ _ (e5 _ _ (e4 _ _ (show _ = some (HO.tup [.int 400, .int (-5)]) from upd_same)))
      have g2 := e6 _ _ (e5 _ _ (e4 _ _ (e3 _ _ (show _ = some (HO.tup [.int 1, .int 3]) from upd_same))))
      have g1 := e6 _ _ (e5 _ _ (e4 _ _ (e3 _ _ (e2 _ _ (show _ = some (HO.tup [.int 0, .int 1]) from upd_same)))))
      have sm := e1.trans (e2.trans (e3.trans (e4.trans (e5.trans e6))))
      have ns : ∀ y xs, (upd (upd (upd (upd (upd (upd H t1 (.tup [.int 0, .int 1])) t2 (.tup [.int 1, .int 3])) t3 (.tup [.int 400, .int (-5)])) t4 (.tup [.int 1152921504606846975, .int (-7)])) t5 (.tup [.int 0, .int 4503599627370496])) t6 (.tup [.ref t1, .ref t2, .ref t3, .ref t4, .ref t5])) y = some (.tup xs) → y ≠ tp := fun y xs h e => by
        obtain ⟨_, _, _, _, _, z, _⟩ := ht.same sm
        rw [← e, h] at z
        exact nomatch z
      have ht6' := ht.same sm
      have rn0 := Rn.of ht sm
      revert g1 g2 g3 g4 g5 g6 ns ht6' rn0
      generalize upd (upd (upd (upd (upd (upd H t1 (.tup [.int 0, .int 1])) t2 (.tup [.int 1, .int 3])) t3 (.tup [.int 400, .int (-5)])) t4 (.tup [.int 1152921504606846975, .int (-7)])) t5 (.tup [.int 0, .int 4503599627370496])) t6 (.tup [.ref t1, .ref t2, .ref t3, .ref t4, .ref t5]) = H6
      intro g6 g5 g4 g3 g2 g1 ns ht6' rn0
      refine ⟨_, rfl, tp, ca, 5, rfl, ht6', by decide, by decide, fun H7 r hr rn => ?_⟩
      have hr5 : r = 0 ∨ r = 1 ∨ r = 2 ∨ r = 3 ∨ r = 4 := by omega
      have pick : ∃ y b s, H6 y = some (.tup [.int b, .int s]) ∧ BaseOK b s ∧ [V.ref t1, .ref t2, .ref t3, .ref t4, .ref t5][r]? = some (.ref y) := by
        rcases hr5 with rfl | rfl | rfl | rfl | rfl
        · exact ⟨t1, _, _, g1, base_ok (by decide +kernel), rfl⟩
        · exact ⟨t2, _, _, g2, base_ok (by decide +kernel), rfl⟩
        · exact ⟨t3, _, _, g3, base_ok (by decide +kernel), rfl⟩
        · exact ⟨t4, _, _, g4, base_ok (by decide +kernel), rfl⟩
        · exact ⟨t5, _, _, g5, base_ok (by decide +kernel), rfl⟩
      obtain ⟨y, b, s, hy, ok, hx⟩ := pick
      refine ⟨t6, _, _, _, rfl, rfl, SqT.of (rn.at g6 (ns _ _ g6)), atI_nat hx, y, _, rfl, SqT.of (rn.at hy (ns _ _ hy)), rfl, ?_⟩
      exact ⟨_, _, rfl, _, _, rfl, rfl, q b s H7 ok (rn0.trans rn)⟩)) 
    (pss_cons (ps_set (i := 11) sc_law.nd rfl (.inl rfl) (pe_tup (pa_cons (pe_c0 GDraw hr (by decide) rfl (pa_cons (pv 1) (pa_cons (pe_op op_add (pv 8) pe_int) pa_nil))) (pa_cons (pe_c0 GDraw hr (by decide) rfl (pa_cons (pv 1) (pa_cons (pe_op op_add (pv 8) pe_int) pa_nil))) pa_nil)))) 
    (pss_cons (ps_for PassesOwn.never rfl (pi_range1 (by rfl) T0.range (pa_cons (pv 8) pa_nil)) (pg_name (i := 12) sc_law.nd rfl (Or.inl rfl)) 
      (pss_cons (ps_conv (t' := tLk K C CS) (ps_if (PW.pt (pw_and (pt_cmpR op_in_seq (pv 12) (pv 11) (by rfl)) (pw_and1 (pt_not (pt_val (pe_c0 GLooks hr (by decide) rfl (pa_cons (pv 1) (pa_cons (pv 3) (pa_cons (pv 5) (pa_cons (pv 6) (pa_cons (pe_op op_add (pv 9) (pe_op op_mul (pv 10) pe_int)) pa_nil))))))))))) 
        (pss_one (ps_ret pe_bl)) pss_nil) (by
      rintro D σ H ⟨v0, tp, ca, fv, tr, o4, bg, a, mn, mm, b, s, lk, r1, r2, k, o13, o14, ta, la, sd, S, Bs, Ls, T, B, L, kv, now, m, rfl, ok, hlk, jt, q⟩
      refine ⟨_, rfl, _, rfl, lk, _, rfl, .inr (SqT.of hlk), rfl, rfl, _, rfl, ite2 (fun _ => ?_) fun _ => iteF (q H (Rn.refl jt.t))⟩
      exact ⟨_, rfl, _, rfl, _, rfl, _, rfl, _, rfl, _, rfl, _, _, rfl, rfl, .inl ok.lo, _, _, rfl, rfl, tp, ca, tr, bg, a, ta, la, sd, S, Bs, Ls, T, B, L, kv, now, m, _, rfl, jt, fun H' rn => ⟨true, rfl, iteF (q H' rn)⟩⟩)) 
      (pss_one (ps_if (pt_cmpR op_eq (pe_c0 GDraw hr (by decide) rfl (pa_cons (pv 1) (pa_cons pe_int pa_nil))) pe_int (nomark _)) 
        (pss_one (ps_if (pt_not (pt_val (pe_c0 GSame hr (by decide) rfl (pa_cons (pe_m0 (pv 6) SC.cl MDe hr (by decide)) (pa_cons (pe_c0 GTake hr (by decide) rfl (pa_cons (pv 3) (pa_cons (pv 5) (pa_cons pe_int pa_nil)))) pa_nil))))) 
          (pss_one (ps_ret pe_bl)) pss_nil)) 
        (pss_cons (ps_set (i := 13) sc_law.nd rfl (.inl rfl) (pe_c0 GDraw hr (by decide) rfl (pa_cons (pv 1) (pa_cons (pe_callB call_len_seq (by rfl) T0.len PySem.boot_len (pa_cons (pe_ix ix_list (pv 3) pe_int (fun _ _ => rfl)) pa_nil)) pa_nil)))) 
        (pss_cons (ps_set (i := 14) sc_law.nd rfl (.inl rfl) (pe_callTy call_tuple_of (by rfl) T0.tuple PyProof.Rows.boot_tuple (pa_cons (pe_lc (own := [("node", 4)]) (g := gName 4) (tt := tYes) (by rfl) sc_law.nd (pi_list (pe_ix ix_list (pe_ix ix_list (pv 3) pe_int (fun _ _ => rfl)) (pv 13) (fun _ _ => rfl))) (blkOk_by (own := [("node", 4)]) (N := N_law) (sc := defScope s_law) (by decide +kernel)) (fun _ _ _ _ _ => pg_name (i := 4) sc_law.nd rfl (Or.inl rfl)) (fun _ _ _ _ _ => pts_nil) (fun _ _ _ _ _ => by exact (pe_c0 GRank hr (by decide) rfl (pa_cons (pv 1) (pa_cons (pv 7) pa_nil))))) pa_nil))) 
        (pss_cons (ps_if (pt_cmpR op_notN (pe_m1 (pv 6) SC.cl MPu hr (by decide) (pa_cons (pe_op op_add (pv 9) (pe_op op_mul (pv 10) (pv 12))) (pa_cons (pv 13) (pa_cons (pv 14) pa_nil)))) pe_non (nomark _)) 
          (pss_one (ps_ret pe_bl)) pss_nil) 
        (pss_one (ps_expr (pe_c0 GPush hr (by decide) rfl (pa_cons (pv 3) (pa_cons (pv 5) (pa_cons (pv 12) (pa_cons (pe_op op_add (pv 9) (pe_op op_mul (pv 10) (pv 12))) (pa_cons (pv 13) (pa_cons (pv 14) pa_nil)))))))))))))))) 
    (pss_cons (ps_if (pt_not (pt_val (pe_c0 GLooks hr (by decide) rfl (pa_cons (pv 1) (pa_cons (pv 3) (pa_cons (pv 5) (pa_cons (pv 6) (pa_cons (pe_op op_add (pv 9) (pe_op op_mul (pv 10) pe_int)) pa_nil)))))))) 
      (pss_one (ps_ret pe_bl)) pss_nil) 
    (pss_cons (ps_if (PW.pt (pw_or (pt_not (pt_val (pe_c0 GDeparted hr (by decide) rfl (pa_cons (pv 3) (pa_cons (pv 5) (pa_cons (pv 6) pa_nil)))))) (pw_or1 (pt_not (pt_val (pe_c0 GLast hr (by decide) rfl (pa_cons (pv 1) (pa_cons (pv 3) (pa_cons (pv 5) (pa_cons (pv 6) (pa_cons (pe_op op_add (pv 9) (pe_op op_mul (pv 10) pe_int)) pa_nil))))))))))) 
      (pss_one (ps_ret pe_bl)) pss_nil) 
    (pss_one (ps_ret (pe_and (pe_c0 GRefused hr (by decide) rfl (pa_cons (pv 3) (pa_cons (pv 6) (pa_cons (pv 2) pa_nil)))) (pe_one (pe_c0 GLooks hr (by decide) rfl (pa_cons (pv 1) (pa_cons (pv 3) (pa_cons (pv 5) (pa_cons (pv 6) (pa_cons (pe_op op_add (pv 9) (pe_op op_mul (pv 10) pe_int)) pa_nil))))))))))))))))))))))), ?_⟩
  refine ⟨_, rfl, sa, ns, rfl, hs, hnl, fun H1 tp ca s1 t1 htp => ?_⟩
  refine ⟨_, rfl, tp, ca, rfl, t1, fun H2 fv d rn2 fo hdf => ?_⟩
  have hdt := dtv_of (dp_same offS_same hdf)
  have hsh := hdt.good fo.good
  have hnd : (dtOf d).nodes ≤ 20 := fo.nd
  have hht := fo.ht
  refine ⟨_, rfl, fv, dtOf d, rfl, hsh, by omega, by omega, fun H3 tr s3 htr0 hlt => ?_⟩
  have t3 := rn2.b.same s3
  obtain ⟨cs3, i3, b3, z3, hct, htp3, hca3, _⟩ := t3
  have t3 := rn2.b.same s3
  have lt3 := hlt.off htp3
  obtain ⟨nl, kd, pl, nls, ps, kvs, l1, l2, l3, _⟩ := hlt.ex
  refine ⟨_, rfl, tr, _, 0, _, rfl, rfl, SqL.of l1, rfl, nl, rfl, ⟨_, SqL.of l2⟩, fun Dl hDl => ?_⟩
  refine lc_list (K := K) (a := nl) (xs := nls) (fun k H' => Same H3 H' ∧ ∃ Bs : List Addr, H' Dl = some (.lst (Bs.map V.ref)) ∧ Bs.length = k ∧ (∀ b ∈ Bs, H' b = some (.lst []) ∧ H3 b = none) ∧ (Dl :: Bs).Nodup) ⟨same_new hDl, [], upd_same, rfl, (fun _ z => nomatch z), by simp⟩ (fun k H' _ hh => SqL.of (hh.1 _ _ l2)) ?_ ?_
  · rintro k x H' hk ⟨sm, Bs, hD, hl, hls, hnd'⟩
    have hkl := (List.getElem?_eq_some_iff.mp hk).1
    refine ⟨rfl, (by show 0 ≤ sizeLine; decide), fun p hp => ?_⟩
    have npD : p ≠ Dl := fun e => by
      rw [e, hD] at hp
      exact nomatch hp
    have npL : p ∉ Bs := fun z => by
      rw [(hls p z).1] at hp
      exact nomatch hp
    obtain ⟨nd1, nd2⟩ := List.nodup_cons.mp hnd'
    refine ⟨Bs.map V.ref, (same_new hp) _ _ hD, small1000 (by rw [List.length_map]; omega), same_mut (sm.trans (same_new hp)) hDl, Bs ++ [p], by rw [upd_same, List.map_append]; rfl, by rw [List.length_append, hl]; rfl, fun b hb => ?_, ?_⟩
    · rcases List.mem_append.mp hb with hb | hb
      · obtain ⟨e1, e2⟩ := hls b hb
        refine ⟨?_, e2⟩
        rw [upd_ne (fun e => nd1 (by rw [← e]; exact hb))]
        exact (same_new hp) _ _ e1
      · obtain rfl := List.mem_singleton.mp hb
        refine ⟨?_, sm.free hp⟩
        rw [upd_ne npD]
        exact upd_same
    · refine List.nodup_cons.mpr ⟨fun z => ?_, List.nodup_append.mpr ⟨nd2, by simp, fun x hx y hy e => ?_⟩⟩
      · rcases List.mem_append.mp z with z | z
        · exact nd1 z
        · exact npD (List.mem_singleton.mp z).symm
      · rw [List.mem_singleton.mp hy] at e
        exact npL (e ▸ hx)
  rintro H4 ⟨s4, Bs, hD4, hBl, hBs, hBn⟩
  rw [l3] at hBl
  obtain ⟨nd1, nd2⟩ := List.nodup_cons.mp hBn
  have t4 := t3.same s4
  refine ⟨_, rfl, fun a dx ha hdx hne => ?_⟩
  have s0 : Same H4 (upd (upd H4 dx (.own a)) a (.ins CS dx [])) := fun y o h => by rw [upd_ne (ne_of_none h ha), upd_ne (ne_of_none h hdx)]; exact h
  have s24 := s3.trans s4
  refine ⟨a, dx, fv, dtOf d, rfl, upd_same, same_dtv (s24.trans s0) hdt, fo.size, fo.good, by omega, by omega, fun H5 ta la sd Ls st tn fr fresh => ⟨rfl, ?_⟩⟩
  have s5 : Same H4 H5 := fun y o h => fr y o (s0 y o h) (ne_of_none h ha)
  have t5 := t4.same s5
  have htp4 := s4 _ _ htp3
  have ntB : tp ∉ Bs := fun z => by
    rw [(hBs tp z).2] at htp3
    exact nomatch htp3
  have nSL : ∀ y o, H4 y = some o → y ∉ sd :: Ls := fun y o h z => by
    have := fresh y z
    rw [s0 _ _ h] at this
    exact nomatch this
  have stM := st.beside (M := Bs ++ [tp]) tn (fun y hy => by
    rcases List.mem_append.mp hy with z | z
    · rw [s0 _ _ (hBs y z).1]
      exact fun z => nomatch z
    · rw [List.mem_singleton.mp z, s0 _ _ htp4]
      exact fun z => nomatch z) (fun y hy => by
    rcases List.mem_append.mp hy with z | z
    · exact ⟨_, s5 _ _ (hBs y z).1⟩
    · rw [List.mem_singleton.mp z]
      exact ⟨_, s5 _ _ htp4⟩)
  have offG : ∀ y o, offS [tp] H3 y = some o → offS ((sd :: Ls) ++ (Bs ++ [tp])) H5 y = some o := fun y o h => by
    obtain ⟨h1, h2⟩ := offS_some h
    rw [offS_ne (fun z => ?_)]
    · exact s5 _ _ (s4 _ _ h2)
    · rcases List.mem_append.mp z with z | z
      · exact nSL y _ (s4 _ _ h2) z
      · rcases List.mem_append.mp z with z | z
        · rw [(hBs y z).2] at h2
          exact nomatch h2
        · exact h1 z
  have nDl : Dl ∉ (sd :: Ls) ++ (Bs ++ [tp]) := fun z => by
    rcases List.mem_append.mp z with z | z
    · exact nSL Dl _ hD4 z
    · rcases List.mem_append.mp z with z | z
      · exact nd1 z
      · rw [List.mem_singleton.mp z, htp3] at hDl
        exact nomatch hDl
  have bge : BgE K ((sd :: Ls) ++ (Bs ++ [tp])) H5 Dl Bs (dtOf d) (fun _ => []) := by
    refine ⟨fun y hy => List.mem_append_right _ (List.mem_append_left _ hy), stM.al, nd2, by rw [offS_ne nDl]; exact s5 _ _ hD4, hBl, fun q hq => ?_⟩
    obtain ⟨u, hu⟩ := ad_sub hq
    have hi := idx_lt hu
    have hi2 := u.nodes_pos
    have hj : (dtOf d).idx q < Bs.length := by rw [hBl]; omega
    exact ⟨_, [], List.getElem?_eq_getElem hj, s5 _ _ (hBs _ (List.getElem_mem hj)).1, .nil⟩
  have J5 : J K C CS ((sd :: Ls) ++ (Bs ++ [tp])) H5 tr Dl Bs a ta la sd Ls (dtOf d) (fun _ => []) (fun _ => []) [] 0 0 := by
    refine ⟨lt3.same offG, bge, stM, fun q hq => ⟨⟨[], List.Perm.refl _, List.Pairwise.nil, rfl⟩, (fun e h => nomatch h), List.Pairwise.nil⟩, ⟨(fun q w _ _ e h => nomatch h), fun q w j _ _ => rfl⟩, ⟨(fun n i p _ h => nomatch h), (fun k v h => nomatch h), fun p _ => List.Pairwise.nil⟩, fo.good, hht, hnd, fo.size, (fun q => Nat.le_refl _), (fun q => Nat.le_refl _), (fun p _ n h => nomatch h), fun y hy => nSL y _ (hBs y hy).1, by decide⟩
  have nca : ca ∉ (sd :: Ls) ++ (Bs ++ [tp]) := fun z => by
    rcases List.mem_append.mp z with z | z
    · exact nSL ca _ (s4 _ _ hca3) z
    · rcases List.mem_append.mp z with z | z
      · rw [(hBs ca z).2] at hca3
        exact nomatch hca3
      · exact hct (List.mem_singleton.mp z)
  have jt5 : JT K C CS ((sd :: Ls) ++ (Bs ++ [tp])) H5 tp ca tr Dl Bs a ta la sd Ls (dtOf d) (fun _ => []) (fun _ => []) [] 0 0 := ⟨J5, t5, List.mem_append_right _ (List.mem_append_right _ (List.mem_singleton.mpr rfl)), ntB, nSL tp _ htp4, nca⟩
  obtain ⟨fa, fvs, hfe, hfs⟩ : ∃ fa fvs, fv = V.ref fa ∧ SqT K (offS ((sd :: Ls) ++ (Bs ++ [tp])) H5) fa fvs := by
    obtain ⟨fa, fvs, h1, h2, _⟩ := (dtv_of hdf).good fo.good
    refine ⟨fa, fvs, h1, same_sqt (fun y o h => offG y o ?_) h2⟩
    obtain ⟨g1, g2⟩ := offS_some h
    rw [offS_ne g1]
    exact s3 _ _ g2
  clear hsh hdt hdf
  generalize hS : (sd :: Ls) ++ (Bs ++ [tp]) = S at stM J5 jt5 hfs bge nDl offG nca
  refine ⟨_, rfl, tp, ca, 5, rfl, jt5.t, by decide, by decide, fun H6 mn hmn rn6 => ?_⟩
  refine ⟨_, rfl, tp, ca, 26, rfl, rn6.b, by decide, by decide, fun H7 mm hmm rn7 => ?_⟩
  refine ⟨.ref sa, tp, ca, fv, tr, _, Dl, a, mn, mm, _, _, _, _, _, _, rfl, by omega, rn7.b, fun m2 H8 hm2 rn8 => ?_⟩
  refine ⟨.ref sa, tp, ca, fv, tr, _, Dl, a, mn, _, _, _, _, _, _, _, rfl, rn8.b, fun b s H9 ok rn9 => ?_⟩
  refine ⟨_, rfl, _, rfl, _, _, rfl, rfl, tp, ca, m2 + 1, rfl, rn9.b, by omega, by omega, fun H10 r1 hr1 rn10 => ?_⟩
  refine ⟨_, rfl, _, rfl, _, _, rfl, rfl, tp, ca, m2 + 1, rfl, rn10.b, by omega, by omega, fun H11 r2 hr2 rn11 => ?_⟩
  refine ⟨(by show 2 ≤ sizeLine; decide), fun lk hlk => ?_⟩
  have s12 : Same H11 (upd H11 lk (.tup [.int (r1 : Nat), .int (r2 : Nat)])) := same_new hlk
  have h12 : (upd H11 lk (.tup [.int (r1 : Nat), .int (r2 : Nat)])) lk = some (.tup [.int (r1 : Nat), .int (r2 : Nat)]) := upd_same
  have rn511 := rn6.trans (rn7.trans (rn8.trans (rn9.trans (rn10.trans rn11))))
  have jt11 := jt5.rn rn511
  have nlk : lk ∉ S := fun z => jt11.j.st.al lk z hlk
  have rn512 := rn511.same s12
  have jt12 := jt5.rn rn512
  have hfs12 := same_sqt (rn512.gos.wide fun y hy => by rw [List.mem_singleton.mp hy]; exact jt5.tS).s hfs
  revert h12 rn512 jt12 hfs12
  generalize upd H11 lk (.tup [.int (r1 : Nat), .int (r2 : Nat)]) = H12
  intro h12 rn512 jt12 hfs12
  refine ⟨_, rfl, m2, rfl, by omega, by omega, ?_⟩
  have wS : ∀ {H H' : Hp}, Rn K tp ca H H' → GoS S H H' := fun rn => rn.gos.wide fun y hy => by rw [List.mem_singleton.mp hy]; exact jt5.tS
  refine for_range (lo := 0) (n := m2) (fun k σ H' => ∃ o4 o12 o13 o14 B L kv mk, σ = stL (.ref sa) tp fv tr o4 Dl a mn (some (.int (m2 : Nat))) (some (.int b)) (some (.int s)) (some (.ref lk)) o12 o13 o14 ∧ GoS S H12 H' ∧ JT K C CS S H' tp ca tr Dl Bs a ta la sd Ls (dtOf d) B L kv ((k : Nat) : Int) mk ∧ mk ≤ k ∧ kv.length ≤ k ∧ ∀ p ∈ lv (dtOf d), ∀ n ∈ its (L p), ∃ l : Nat, l < k ∧ n = b + s * l) ⟨_, _, _, _, _, _, [], 0, rfl, GoS.refl, jt12, Nat.le_refl _, Nat.le_refl _, fun p _ n h => nomatch h⟩ ?_ ?_
  · rintro k σ H13 hk ⟨o4, o12, o13, o14, B, L, kv, mk, rfl, g13, jt13, hmk, hkv, hnm⟩
    rw [show (0 + (k : Int)) = ((k : Nat) : Int) from Int.zero_add _]
    have hlk13 := g13.at h12 nlk
    refine ⟨.ref sa, tp, ca, fv, tr, _, Dl, a, mn, m2, b, s, lk, r1, r2, k, _, _, ta, la, sd, S, Bs, Ls, dtOf d, B, L, kv, _, mk, rfl, ok, hlk13, jt13, fun H14 rn14 => ?_⟩
    have jt14 := jt13.rn rn14
    refine ⟨_, rfl, tp, ca, 4, rfl, jt14.t, by decide, by decide, fun H15 rr hrr rn15 => ?_⟩
    have jt15 := jt14.rn rn15
    have g15 := (g13.trans (wS rn14)).trans (wS rn15)
    have j := jt15.j
    have subA : ∀ y ∈ sd :: Ls, y ∈ S := j.st.sub
    have subB : ∀ y ∈ Bs, y ∈ S := j.bg.sub
    have djL : ∀ y ∈ sd :: Ls, y ∉ Bs := fun y hy z => j.dj y z hy
    refine ⟨rfl, _, rfl, ite2 (fun _ => ?_) fun _ => ?_⟩
    · obtain ⟨dxa, oba⟩ := j.st.obj
      refine ⟨_, rfl, a, dxa, _, rfl, oba, rfl, a, ta, la, sd, S, Ls, dtOf d, L, kv, rfl, j.st, j.ht20, j.con, j.se, j.sz', (fun hnil => ?_), fun n p rs i dd hi H16 v g16 st16 hv16 hdp16 => ?_⟩
      · refine ⟨_, rfl, _, rfl, tr, Dl, S, Bs, dtOf d, dtOf d, B, L, _, [], (by rw [idx_nil]; rfl), j.lt, j.bg, j.re, sub_nil _, j.con, j.ht20, j.nd', j.bz2, (fun _ H16 s16 => ?_), fun n p rs i B' dd => absurd hnil (dep_ne dd)⟩
        refine ⟨.non, .non, .none, rfl, .non, .non, trivial, fun H17 s17 => ⟨true, rfl, iteF ?_⟩⟩
        exact ⟨_, _, _, _, B, L, kv, mk, rfl, g15.trans (GoS.of (s16.trans s17)), (jt15.same (s16.trans s17)).later (by omega), by omega, by omega, fun p hp n hn => by
          obtain ⟨l, h1, h2⟩ := hnm p hp n hn
          exact ⟨l, by omega, h2⟩⟩
      · have lt16 := j.lt.mem (g16.wide subA).s
        have bg16 := j.bg.keep g16 subA djL
        refine ⟨_, rfl, _, rfl, tr, Dl, S, Bs, dtOf d, dtOf d, B, L, _, [], (by rw [idx_nil]; rfl), lt16, bg16, j.re, sub_nil _, j.con, j.ht20, j.nd', j.bz2, (fun z => absurd z (dep_ne dd)), fun n2 p2 rs2 i2 B' dd2 hi2 H17 v2 g17 B17 bl17 R17 hv2 hdp17 => ?_⟩
        have dd2' : Dep (dtOf d) L n2 p2 rs2 := dd2
        have hi2' : (lv (dtOf d))[i2]? = some p2 := hi2
        obtain ⟨rfl, rfl, rfl⟩ := dep_det p p2 (dtOf d) L n n2 rs rs2 dd dd2'
        obtain rfl := lv_i hi hi2'
        rw [cutA_nil] at R17
        have g1517 : GoS (Bs ++ (sd :: Ls)) H15 H17 := (g16.wide fun y hy => List.mem_append_right _ hy).trans (g17.wide fun y hy => List.mem_append_left _ hy)
        have st17 := st16.keep g17 subB j.dj
        have J17 := j.cut dd g1517 B17 bl17 R17 st17
        have jt17 := jt15.of J17 g1517
        have hrl : rs.length ≤ 1000000 := by
          have := dd.len
          have := ht_path (dep_lv dd)
          have := j.ht
          omega
        refine ⟨.ref v, .ref v2, depD n i rs, rfl, dp_same offS_same (dp_same (g17.wide subB).s hdp16), dp_same offS_same hdp17, pl_dep hrl (dep_rk dd j.st.rk), fun H18 s18 => ⟨true, rfl, iteF ?_⟩⟩
        refine ⟨_, _, _, _, B', cutL p L, dropK kv (Sum.inl n : Key), mk, rfl, (g15.trans (g1517.wide fun y hy => (List.mem_append.mp hy).elim (subB y) (subA y))).trans (GoS.of s18), (jt17.same s18).later (by omega), by omega, by have := dropK_le' kv (Sum.inl n : Key); omega, fun p' hp' x hx => ?_⟩
        obtain ⟨l, h1, h2⟩ := hnm p' hp' x (its_cut hx)
        exact ⟨l, by omega, h2⟩
    · obtain ⟨nl, kd, pl, nls, ps, kvs, l1, l2, l3, l4, l5, l6, l7, l8, l9⟩ := (j.lt.same offS_same).ex
      have hlf := lf_le (dtOf d)
      have hno := j.nd
      refine ⟨_, rfl, _, rfl, tr, _, 2, _, rfl, rfl, SqL.of l1, rfl, pl, ps, rfl, .inl (SqL.of l7), tp, ca, ps.length, rfl, jt15.t, (by rw [l8]; exact lf_pos _), (by rw [l8]; omega), fun H16 i hi rn16 => ?_⟩
      have jt16 := jt15.rn rn16
      rw [l8] at hi
      have hp : (lv (dtOf d))[i]? = some ((lv (dtOf d))[i]'hi) := List.getElem?_eq_getElem hi
      revert hp
      generalize (lv (dtOf d))[i]'hi = p
      intro hp
      have hpv := List.mem_of_getElem? hp
      have hpl := ht_path hpv
      have hht := j.ht
      clear l1 l2 l3 l4 l5 l6 l7 l8 l9
      obtain ⟨nl, kd, pl, nls, ps, kvs, l1', l2, l3, l4, l5, l6, l7', l8, l9⟩ := jt16.j.lt.ex
      obtain ⟨bl, e9, hb'⟩ := l9 i p hp
      have hb := (offS_some hb').2
      have l1 := (offS_some l1').2
      have l7 := (offS_some l7').2
      refine ⟨_, rfl, tr, _, 2, _, rfl, rfl, SqL.of l1, rfl, _, rfl, pl, _, _, _, rfl, rfl, SqL.of l7, atI_nat e9, bl, rfl, ⟨_, SqL.of hb⟩, fun D2 hD2 => ?_⟩
      have alS := jt16.j.st.al
      have nD2 : D2 ∉ S := fun z => alS D2 z hD2
      have nD2t : D2 ≠ tp := jt16.t.new hD2
      have nbt : bl ≠ tp := fun e => (offS_some hb').1 (by rw [e]; exact jt16.tS)
      refine lc_list (K := K) (a := bl) (xs := pth (dtOf d) p (p.length + 1)) (fun kk H' => Rn K tp ca H16 H' ∧ ∃ (as : List Addr) (rs : List (List Int)), rs.length = kk ∧ as.length = kk ∧ H' D2 = some (.lst (as.map V.ref)) ∧ DpAll K (offS S H') (as.map V.ref) (rs.map intsD) ∧ ∀ r ∈ rs, RankI r) ⟨Rn.of jt16.t (same_new hD2), [], [], rfl, rfl, upd_same, .nil, fun r h => nomatch h⟩ (fun kk H' _ hh => SqL.of (hh.1.at hb nbt)) ?_ ?_
      · rintro kk x H' hkk ⟨rn, as, rs, hrl, hal, hD, hda, hri⟩
        have hkl := (List.getElem?_eq_some_iff.mp hkk).1
        rw [pth_len] at hkl
        refine ⟨rfl, _, rfl, _, rfl, tp, ca, mn, rfl, rn.b, fun H'' a' ns' rn' hri' ha0 ha' => ?_⟩
        have hD'' := rn'.at hD nD2t
        have na' : a' ∉ S := fun z => by
          have := (jt16.rn rn).j.st.al a' z
          exact this ha0
        have nad : a' ≠ D2 := fun e => by
          rw [← e, ha'] at hD''
          exact nomatch hD''
        have G : KeepT (offS S H') (offS S (upd H'' D2 (.lst (as.map V.ref ++ [.ref a'])))) := keepT_of fun y o h ne => by
          obtain ⟨h1, h2⟩ := offS_some ((wS rn').s _ _ h)
          rw [offS_ne h1, upd_ne (fun e => ?_)]
          · exact h2
          · obtain ⟨_, h3⟩ := offS_some h
            rw [e, hD] at h3
            exact ne _ (Option.some.inj h3).symm
        refine ⟨_, hD'', small1000 (by rw [List.length_map]; omega), (rn.trans rn').mut hD2, as ++ [a'], rs ++ [ns'], by rw [List.length_append, hrl]; rfl, by rw [List.length_append, hal]; rfl, by rw [upd_same, List.map_append]; rfl, ?_, fun r hr => ?_⟩
        · rw [List.map_append, List.map_append]
          refine dps_app (dps_keep G hda (noL_tups (fun r : List Int => r.map PyData.int) (fun r => noL_ints r) rs)) (.cons (dp_intT (SqT.of ?_)) .nil)
          rw [offS_ne na', upd_ne nad]
          exact ha'
        · rcases List.mem_append.mp hr with hr | hr
          · exact hri r hr
          · rw [List.mem_singleton.mp hr]
            exact hri'
      rintro H17 ⟨rn17, as, rs, hrl, hal, hD17, hda, hri⟩
      rw [pth_len] at hrl hal
      refine ⟨D2, _, rfl, .inl ⟨SqL.of hD17, fun v hv => ?_⟩⟩
      have hrg := ok.rg k (by omega)
      have hfresh : ∀ p ∈ lv (dtOf d), (b + s * (k : Nat)) ∉ its (L p) := fun p' hp' z => by
        obtain ⟨l, h1, h2⟩ := hnm p' hp' _ z
        have := ok.inj h2
        omega
      have habs := seat_absent j.se hfresh
      have s18 := same_new (o := .tup (as.map V.ref)) hv
      have jt18 := (jt16.rn rn17).same s18
      have nv : v ∉ S := fun z => (jt16.rn rn17).j.st.al v z hv
      have hv18 : offS S (upd H17 v (.tup (as.map V.ref))) v = some (.tup (as.map V.ref)) := by
        rw [offS_ne nv]
        exact upd_same
      have hz : Dp K (offS S (upd H17 v (.tup (as.map V.ref)))) (.ref v) (.tuple (rs.map intsD)) := .tup (SqT.of hv18) (dps_same ((GoS.of s18 : GoS [] H17 _).wide fun y h => nomatch h).s hda)
      have g18 := (g15.trans (wS rn16)).trans ((wS rn17).trans (GoS.of s18))
      revert jt18 hz g18
      generalize upd H17 v (.tup (as.map V.ref)) = H18
      intro jt18 hz g18
      have j18 := jt18.j
      obtain ⟨dx18, ob18⟩ := j18.st.obj
      refine ⟨_, rfl, a, dx18, _, rfl, ob18, rfl, _, rfl, _, rfl, _, rfl, _, _, rfl, rfl, .inl ok.lo, _, _, rfl, rfl, _, rfl, _, rfl, a, ta, la, sd, S, Ls, dtOf d, L, kv, b + s * (k : Nat), i, p, .ref v, rs, rfl, j18.st, j.ht20, habs, hrg.1, hrg.2, hp, hz, hrl, (fun r hr => rank_intsD (hri r hr)), j.sz', by omega, fun H19 g19 st19 => ?_⟩
      refine ⟨rfl, _, rfl, iteF ?_⟩
      have lt19 := j18.lt.mem (g19.wide subA).s
      have bg19 := j18.bg.keep g19 subA djL
      refine ⟨_, rfl, _, rfl, _, rfl, _, rfl, _, rfl, _, rfl, _, _, rfl, rfl, .inl ok.lo, _, _, rfl, rfl, _, rfl, _, rfl, tr, Dl, S, Bs, dtOf d, B, _, b + s * (k : Nat), i, p, .ref v, rs, rfl, lt19, bg19, hp, j.ht20, dp_same (g19.wide subA).s hz, hrl, j.bz2, fun H20 g20 B20 => ?_⟩
      have g1820 : GoS (Bs ++ (sd :: Ls)) H18 H20 := (g19.wide fun y hy => List.mem_append_right _ hy).trans (g20.wide fun y hy => List.mem_append_left _ hy)
      have st20 := st19.keep g20 subB j.dj
      have J20 := j18.psh hp habs hrg.1 hrg.2 (by omega) g1820 B20 st20
      have jt20 := jt18.of J20 g1820
      refine ⟨_, _, _, _, _, _, _, mk + 1, rfl, g18.trans (g1820.wide fun y hy => (List.mem_append.mp hy).elim (subB y) (subA y)), jt20, by omega, by have := putK_le kv (Sum.inl (b + s * (k : Nat)) : Key) (.int (i : Nat)); omega, fun p' hp' x hx => ?_⟩
      rcases its_psh hpv hp' hx with h | h
      · exact ⟨k, by omega, h⟩
      · obtain ⟨l, h1, h2⟩ := hnm p' hp' x h
        exact ⟨l, by omega, h2⟩
  · rintro σ H13 ⟨o4, o12, o13, o14, B, L, kv, mk, rfl, g13, jt13, hmk, hkv, hnm⟩
    have hlk13 := g13.at h12 nlk
    refine ⟨_, rfl, _, rfl, _, rfl, _, rfl, _, rfl, _, rfl, _, _, rfl, rfl, .inl ok.lo, _, _, rfl, rfl, tp, ca, tr, Dl, a, ta, la, sd, S, Bs, Ls, dtOf d, B, L, kv, _, mk, _, rfl, jt13, fun H14 rn14 => ⟨true, rfl, iteF ?_⟩⟩
    have jt14 := jt13.rn rn14
    refine ⟨_, rfl, _, rfl, _, rfl, tr, Dl, a, ta, la, sd, S, Bs, Ls, dtOf d, B, L, kv, _, mk, rfl, jt14.j, fun H15 s15 => ⟨true, rfl, iteF ?_⟩⟩
    have jt15 := jt14.same s15
    have hrg := ok.rg 75 (Nat.le_refl _)
    refine ⟨_, rfl, _, rfl, _, rfl, _, rfl, _, rfl, _, rfl, _, _, rfl, rfl, .inl ok.lo, _, _, rfl, rfl, tp, ca, tr, Dl, a, ta, la, sd, S, Bs, Ls, dtOf d, B, L, kv, _, mk, _, rfl, jt15, (fun p hp z => ?_), hrg.1, hrg.2, fun H16 rn16 => ⟨true, rfl, iteF ?_⟩⟩
    · obtain ⟨l, h1, h2⟩ := hnm p hp _ z
      have := ok.inj (k := 75) h2
      omega
    have jt16 := jt15.rn rn16
    have hk16 : KindV K H16 fv "tuple" := by
      rw [hfe]
      have g16 := ((g13.trans (wS rn14)).trans (GoS.of s15)).trans (wS rn16)
      exact kind_sqt (same_sqt offS_same (same_sqt g16.s hfs12))
    refine ⟨_, rfl, _, rfl, _, rfl, tr, Dl, a, ta, la, sd, S, Bs, Ls, dtOf d, B, L, kv, _, mk, fv, "tuple", rfl, jt16.j, hk16, fun H17 s17 => ⟨true, rfl, iteT ?_⟩⟩
    exact ⟨_, rfl, _, rfl, _, rfl, _, rfl, _, rfl, _, rfl, _, _, rfl, rfl, .inl ok.lo, _, _, rfl, rfl, tp, ca, tr, Dl, a, ta, la, sd, S, Bs, Ls, dtOf d, B, L, kv, _, mk, _, rfl, jt16.same s17, fun H18 rn18 => q H18⟩
end
end K26
set_option Elab.async false
set_option linter.all false
set_option maxRecDepth 100000
set_option maxHeartbeats 8000000
namespace K26
open PySem PySem.Spec PyProof.Rows L2 Dt
section
variable {K : PySem.W.Frag} {h : Heap} {mg : Str → Option Value}
theorem defAt_of (X : K.In h) (G : h.Ns mainGlobals mg) {x : Str} {st : Stmt} {ps : List Str} {f : Addr} {oc kV doc pm cdv ct : Value} {od an : Option Addr} {osl : Array (Option Value)}
    (hb : ∀ (kV doc pm : Value) (an : Option Addr) (cdv ct : Value) (us : List Value), us.length = ps.length → bindArgs (PySem.W.fnOf x x (defArgs st) (defBody st) (defScope st) .none kV doc pm an cdv ct) ⟨us, []⟩ = pure (ps.zip us))
    (a : PySem.W.nsIn K mainGlobals x = some (some (.ref f))) (l : K.lookup f = some ⟨oc, od, .func (PySem.W.fnOf x x (defArgs st) (defBody st) (defScope st) .none kV doc pm an cdv ct), osl⟩) (c : PySem.W.codeIn K cdv x = true) (k : PySem.W.keepIn K (.ref f) = true) : DefAt K mg x st ps :=
  ⟨f, _, fun_mk l c k, PySem.W.mg_of X G a, (fun_mk l c k).binds hb⟩
theorem kwAt_of (X : K.In h) (G : h.Ns mainGlobals mg) {x : Str} {st : Stmt} {ps ks : List Str} {g : {α : Type} → List α → List α} {f : Addr} {oc kV doc pm cdv ct : Value} {od an : Option Addr} {osl : Array (Option Value)}
    (hk : ∀ (kV doc pm : Value) (an : Option Addr) (cdv ct : Value) (s : Shared) (ws : List Value), ws.length = ks.length → BindsTo s (PySem.W.fnOf x x (defArgs st) (defBody st) (defScope st) .none kV doc pm an cdv ct) ⟨[], ks.zip ws⟩ (ps.zip (g ws)))
    (hr : ∀ {zs : List V} {ws : List Value}, Vals zs ws → Vals (g zs) (g ws))
    (a : PySem.W.nsIn K mainGlobals x = some (some (.ref f))) (l : K.lookup f = some ⟨oc, od, .func (PySem.W.fnOf x x (defArgs st) (defBody st) (defScope st) .none kV doc pm an cdv ct), osl⟩) : KwAt K mg x ps ks g :=
  ⟨f, _, PySem.W.mg_of X G a, ⟨_, _, _, l⟩, ⟨fun s ws hw => hk _ _ _ _ _ _ s ws hw, hr⟩⟩
end
theorem da_is_integer {K : PySem.W.Frag} {h : Heap} {mg : Str → Option Value} (X : K.In h) (G : h.Ns mainGlobals mg) {f : Addr} {oc kV doc pm cdv ct : Value} {od an : Option Addr} {osl : Array (Option Value)}
    (a : PySem.W.nsIn K mainGlobals "is_integer" = some (some (.ref f))) (l : K.lookup f = some ⟨oc, od, .func (PySem.W.fnOf "is_integer" "is_integer" (defArgs s_is_integer) (defBody s_is_integer) (defScope s_is_integer) .none kV doc pm an cdv ct), osl⟩) (c : PySem.W.codeIn K cdv "is_integer" = true) (k : PySem.W.keepIn K (.ref f) = true) : DefAt K mg "is_integer" s_is_integer ["thing"] :=
  defAt_of X G (fun _ _ _ _ _ _ us hl => match us, hl with | [_], _ => rfl) a l c k
theorem da_is_number {K : PySem.W.Frag} {h : Heap} {mg : Str → Option Value} (X : K.In h) (G : h.Ns mainGlobals mg) {f : Addr} {oc kV doc pm cdv ct : Value} {od an : Option Addr} {osl : Array (Option Value)}
    (a : PySem.W.nsIn K mainGlobals "is_number" = some (some (.ref f))) (l : K.lookup f = some ⟨oc, od, .func (PySem.W.fnOf "is_number" "is_number" (defArgs s_is_number) (defBody s_is_number) (defScope s_is_number) .none kV doc pm an cdv ct), osl⟩) (c : PySem.W.codeIn K cdv "is_number" = true) (k : PySem.W.keepIn K (.ref f) = true) : DefAt K mg "is_number" s_is_number ["thing"] :=
  defAt_of X G (fun _ _ _ _ _ _ us hl => match us, hl with | [_], _ => rfl) a l c k
theorem da_is_below {K : PySem.W.Frag} {h : Heap} {mg : Str → Option Value} (X : K.In h) (G : h.Ns mainGlobals mg) {f : Addr} {oc kV doc pm cdv ct : Value} {od an : Option Addr} {osl : Array (Option Value)}
    (a : PySem.W.nsIn K mainGlobals "is_below" = some (some (.ref f))) (l : K.lookup f = some ⟨oc, od, .func (PySem.W.fnOf "is_below" "is_below" (defArgs s_is_below) (defBody s_is_below) (defScope s_is_below) .none kV doc pm an cdv ct), osl⟩) (c : PySem.W.codeIn K cdv "is_below" = true) (k : PySem.W.keepIn K (.ref f) = true) : DefAt K mg "is_below" s_is_below ["thing", "bound"] :=
  defAt_of X G (fun _ _ _ _ _ _ us hl => match us, hl with | [_, _], _ => rfl) a l c k
theorem da_need {K : PySem.W.Frag} {h : Heap} {mg : Str → Option Value} (X : K.In h) (G : h.Ns mainGlobals mg) {f : Addr} {oc kV doc pm cdv ct : Value} {od an : Option Addr} {osl : Array (Option Value)}
    (a : PySem.W.nsIn K mainGlobals "need" = some (some (.ref f))) (l : K.lookup f = some ⟨oc, od, .func (PySem.W.fnOf "need" "need" (defArgs s_need) (defBody s_need) (defScope s_need) .none kV doc pm an cdv ct), osl⟩) (c : PySem.W.codeIn K cdv "need" = true) (k : PySem.W.keepIn K (.ref f) = true) : DefAt K mg "need" s_need ["fits", "word"] :=
  defAt_of X G (fun _ _ _ _ _ _ us hl => match us, hl with | [_, _], _ => rfl) a l c k
theorem da_is_shape {K : PySem.W.Frag} {h : Heap} {mg : Str → Option Value} (X : K.In h) (G : h.Ns mainGlobals mg) {f : Addr} {oc kV doc pm cdv ct : Value} {od an : Option Addr} {osl : Array (Option Value)}
    (a : PySem.W.nsIn K mainGlobals "is_shape" = some (some (.ref f))) (l : K.lookup f = some ⟨oc, od, .func (PySem.W.fnOf "is_shape" "is_shape" (defArgs s_is_shape) (defBody s_is_shape) (defScope s_is_shape) .none kV doc pm an cdv ct), osl⟩) (c : PySem.W.codeIn K cdv "is_shape" = true) (k : PySem.W.keepIn K (.ref f) = true) : DefAt K mg "is_shape" s_is_shape ["thing"] :=
  defAt_of X G (fun _ _ _ _ _ _ us hl => match us, hl with | [_], _ => rfl) a l c k
theorem da_has_forks_of {K : PySem.W.Frag} {h : Heap} {mg : Str → Option Value} (X : K.In h) (G : h.Ns mainGlobals mg) {f : Addr} {oc kV doc pm cdv ct : Value} {od an : Option Addr} {osl : Array (Option Value)}
    (a : PySem.W.nsIn K mainGlobals "has_forks_of" = some (some (.ref f))) (l : K.lookup f = some ⟨oc, od, .func (PySem.W.fnOf "has_forks_of" "has_forks_of" (defArgs s_has_forks_of) (defBody s_has_forks_of) (defScope s_has_forks_of) .none kV doc pm an cdv ct), osl⟩) (c : PySem.W.codeIn K cdv "has_forks_of" = true) (k : PySem.W.keepIn K (.ref f) = true) : DefAt K mg "has_forks_of" s_has_forks_of ["thing", "least"] :=
  defAt_of X G (fun _ _ _ _ _ _ us hl => match us, hl with | [_, _], _ => rfl) a l c k
theorem da_need_shape {K : PySem.W.Frag} {h : Heap} {mg : Str → Option Value} (X : K.In h) (G : h.Ns mainGlobals mg) {f : Addr} {oc kV doc pm cdv ct : Value} {od an : Option Addr} {osl : Array (Option Value)}
    (a : PySem.W.nsIn K mainGlobals "need_shape" = some (some (.ref f))) (l : K.lookup f = some ⟨oc, od, .func (PySem.W.fnOf "need_shape" "need_shape" (defArgs s_need_shape) (defBody s_need_shape) (defScope s_need_shape) .none kV doc pm an cdv ct), osl⟩) (c : PySem.W.codeIn K cdv "need_shape" = true) (k : PySem.W.keepIn K (.ref f) = true) : DefAt K mg "need_shape" s_need_shape ["form", "word"] :=
  defAt_of X G (fun _ _ _ _ _ _ us hl => match us, hl with | [_, _], _ => rfl) a l c k
theorem da_need_queue {K : PySem.W.Frag} {h : Heap} {mg : Str → Option Value} (X : K.In h) (G : h.Ns mainGlobals mg) {f : Addr} {oc kV doc pm cdv ct : Value} {od an : Option Addr} {osl : Array (Option Value)}
    (a : PySem.W.nsIn K mainGlobals "need_queue" = some (some (.ref f))) (l : K.lookup f = some ⟨oc, od, .func (PySem.W.fnOf "need_queue" "need_queue" (defArgs s_need_queue) (defBody s_need_queue) (defScope s_need_queue) .none kV doc pm an cdv ct), osl⟩) (c : PySem.W.codeIn K cdv "need_queue" = true) (k : PySem.W.keepIn K (.ref f) = true) : DefAt K mg "need_queue" s_need_queue ["tree", "queue", "word"] :=
  defAt_of X G (fun _ _ _ _ _ _ us hl => match us, hl with | [_, _, _], _ => rfl) a l c k
theorem da_shape_tree {K : PySem.W.Frag} {h : Heap} {mg : Str → Option Value} (X : K.In h) (G : h.Ns mainGlobals mg) {f : Addr} {oc kV doc pm cdv ct : Value} {od an : Option Addr} {osl : Array (Option Value)}
    (a : PySem.W.nsIn K mainGlobals "shape_tree" = some (some (.ref f))) (l : K.lookup f = some ⟨oc, od, .func (PySem.W.fnOf "shape_tree" "shape_tree" (defArgs s_shape_tree) (defBody s_shape_tree) (defScope s_shape_tree) .none kV doc pm an cdv ct), osl⟩) (c : PySem.W.codeIn K cdv "shape_tree" = true) (k : PySem.W.keepIn K (.ref f) = true) : DefAt K mg "shape_tree" s_shape_tree ["form", "word"] :=
  defAt_of X G (fun _ _ _ _ _ _ us hl => match us, hl with | [_, _], _ => rfl) a l c k
theorem da_is_rank {K : PySem.W.Frag} {h : Heap} {mg : Str → Option Value} (X : K.In h) (G : h.Ns mainGlobals mg) {f : Addr} {oc kV doc pm cdv ct : Value} {od an : Option Addr} {osl : Array (Option Value)}
    (a : PySem.W.nsIn K mainGlobals "is_rank" = some (some (.ref f))) (l : K.lookup f = some ⟨oc, od, .func (PySem.W.fnOf "is_rank" "is_rank" (defArgs s_is_rank) (defBody s_is_rank) (defScope s_is_rank) .none kV doc pm an cdv ct), osl⟩) (c : PySem.W.codeIn K cdv "is_rank" = true) (k : PySem.W.keepIn K (.ref f) = true) : DefAt K mg "is_rank" s_is_rank ["thing"] :=
  defAt_of X G (fun _ _ _ _ _ _ us hl => match us, hl with | [_], _ => rfl) a l c k
theorem da_fit_path {K : PySem.W.Frag} {h : Heap} {mg : Str → Option Value} (X : K.In h) (G : h.Ns mainGlobals mg) {f : Addr} {oc kV doc pm cdv ct : Value} {od an : Option Addr} {osl : Array (Option Value)}
    (a : PySem.W.nsIn K mainGlobals "fit_path" = some (some (.ref f))) (l : K.lookup f = some ⟨oc, od, .func (PySem.W.fnOf "fit_path" "fit_path" (defArgs s_fit_path) (defBody s_fit_path) (defScope s_fit_path) .none kV doc pm an cdv ct), osl⟩) (c : PySem.W.codeIn K cdv "fit_path" = true) (k : PySem.W.keepIn K (.ref f) = true) : DefAt K mg "fit_path" s_fit_path ["tree", "queue", "thing"] :=
  defAt_of X G (fun _ _ _ _ _ _ us hl => match us, hl with | [_, _, _], _ => rfl) a l c k
theorem da_place_behind {K : PySem.W.Frag} {h : Heap} {mg : Str → Option Value} (X : K.In h) (G : h.Ns mainGlobals mg) {f : Addr} {oc kV doc pm cdv ct : Value} {od an : Option Addr} {osl : Array (Option Value)}
    (a : PySem.W.nsIn K mainGlobals "place_behind" = some (some (.ref f))) (l : K.lookup f = some ⟨oc, od, .func (PySem.W.fnOf "place_behind" "place_behind" (defArgs s_place_behind) (defBody s_place_behind) (defScope s_place_behind) .none kV doc pm an cdv ct), osl⟩) (c : PySem.W.codeIn K cdv "place_behind" = true) (k : PySem.W.keepIn K (.ref f) = true) : DefAt K mg "place_behind" s_place_behind ["line", "rank"] :=
  defAt_of X G (fun _ _ _ _ _ _ us hl => match us, hl with | [_, _], _ => rfl) a l c k
theorem da_need_absent {K : PySem.W.Frag} {h : Heap} {mg : Str → Option Value} (X : K.In h) (G : h.Ns mainGlobals mg) {f : Addr} {oc kV doc pm cdv ct : Value} {od an : Option Addr} {osl : Array (Option Value)}
    (a : PySem.W.nsIn K mainGlobals "need_absent" = some (some (.ref f))) (l : K.lookup f = some ⟨oc, od, .func (PySem.W.fnOf "need_absent" "need_absent" (defArgs s_need_absent) (defBody s_need_absent) (defScope s_need_absent) .none kV doc pm an cdv ct), osl⟩) (c : PySem.W.codeIn K cdv "need_absent" = true) (k : PySem.W.keepIn K (.ref f) = true) : DefAt K mg "need_absent" s_need_absent ["standing", "number"] :=
  defAt_of X G (fun _ _ _ _ _ _ us hl => match us, hl with | [_, _], _ => rfl) a l c k
theorem da_need_node {K : PySem.W.Frag} {h : Heap} {mg : Str → Option Value} (X : K.In h) (G : h.Ns mainGlobals mg) {f : Addr} {oc kV doc pm cdv ct : Value} {od an : Option Addr} {osl : Array (Option Value)}
    (a : PySem.W.nsIn K mainGlobals "need_node" = some (some (.ref f))) (l : K.lookup f = some ⟨oc, od, .func (PySem.W.fnOf "need_node" "need_node" (defArgs s_need_node) (defBody s_need_node) (defScope s_need_node) .none kV doc pm an cdv ct), osl⟩) (c : PySem.W.codeIn K cdv "need_node" = true) (k : PySem.W.keepIn K (.ref f) = true) : DefAt K mg "need_node" s_need_node ["tree", "node", "word"] :=
  defAt_of X G (fun _ _ _ _ _ _ us hl => match us, hl with | [_, _, _], _ => rfl) a l c k
theorem da_is_within {K : PySem.W.Frag} {h : Heap} {mg : Str → Option Value} (X : K.In h) (G : h.Ns mainGlobals mg) {f : Addr} {oc kV doc pm cdv ct : Value} {od an : Option Addr} {osl : Array (Option Value)}
    (a : PySem.W.nsIn K mainGlobals "is_within" = some (some (.ref f))) (l : K.lookup f = some ⟨oc, od, .func (PySem.W.fnOf "is_within" "is_within" (defArgs s_is_within) (defBody s_is_within) (defScope s_is_within) .none kV doc pm an cdv ct), osl⟩) (c : PySem.W.codeIn K cdv "is_within" = true) (k : PySem.W.keepIn K (.ref f) = true) : DefAt K mg "is_within" s_is_within ["tree", "node", "top"] :=
  defAt_of X G (fun _ _ _ _ _ _ us hl => match us, hl with | [_, _, _], _ => rfl) a l c k
theorem da_order_at {K : PySem.W.Frag} {h : Heap} {mg : Str → Option Value} (X : K.In h) (G : h.Ns mainGlobals mg) {f : Addr} {oc kV doc pm cdv ct : Value} {od an : Option Addr} {osl : Array (Option Value)}
    (a : PySem.W.nsIn K mainGlobals "order_at" = some (some (.ref f))) (l : K.lookup f = some ⟨oc, od, .func (PySem.W.fnOf "order_at" "order_at" (defArgs s_order_at) (defBody s_order_at) (defScope s_order_at) .none kV doc pm an cdv ct), osl⟩) (c : PySem.W.codeIn K cdv "order_at" = true) (k : PySem.W.keepIn K (.ref f) = true) : DefAt K mg "order_at" s_order_at ["tree", "lines", "node"] :=
  defAt_of X G (fun _ _ _ _ _ _ us hl => match us, hl with | [_, _, _], _ => rfl) a l c k
theorem da_need_standing {K : PySem.W.Frag} {h : Heap} {mg : Str → Option Value} (X : K.In h) (G : h.Ns mainGlobals mg) {f : Addr} {oc kV doc pm cdv ct : Value} {od an : Option Addr} {osl : Array (Option Value)}
    (a : PySem.W.nsIn K mainGlobals "need_standing" = some (some (.ref f))) (l : K.lookup f = some ⟨oc, od, .func (PySem.W.fnOf "need_standing" "need_standing" (defArgs s_need_standing) (defBody s_need_standing) (defScope s_need_standing) .none kV doc pm an cdv ct), osl⟩) (c : PySem.W.codeIn K cdv "need_standing" = true) (k : PySem.W.keepIn K (.ref f) = true) : DefAt K mg "need_standing" s_need_standing ["standing", "word"] :=
  defAt_of X G (fun _ _ _ _ _ _ us hl => match us, hl with | [_, _], _ => rfl) a l c k
theorem da_order_of {K : PySem.W.Frag} {h : Heap} {mg : Str → Option Value} (X : K.In h) (G : h.Ns mainGlobals mg) {f : Addr} {oc kV doc pm cdv ct : Value} {od an : Option Addr} {osl : Array (Option Value)}
    (a : PySem.W.nsIn K mainGlobals "order_of" = some (some (.ref f))) (l : K.lookup f = some ⟨oc, od, .func (PySem.W.fnOf "order_of" "order_of" (defArgs s_order_of) (defBody s_order_of) (defScope s_order_of) .none kV doc pm an cdv ct), osl⟩) (c : PySem.W.codeIn K cdv "order_of" = true) (k : PySem.W.keepIn K (.ref f) = true) : (DefAt K mg "order_of" s_order_of ["standing", "node"]) ∧ KwAt K mg "order_of" ["standing", "node"] ["node", "standing"] revL :=
  ⟨defAt_of X G (fun _ _ _ _ _ _ us hl => match us, hl with | [_, _], _ => rfl) a l c k, kwAt_of X G (fun _ _ _ _ _ _ _ ws hl => match ws, hl with | [_, _], _ => .of_eq rfl) revL_rel a l⟩
theorem da_place_of {K : PySem.W.Frag} {h : Heap} {mg : Str → Option Value} (X : K.In h) (G : h.Ns mainGlobals mg) {f : Addr} {oc kV doc pm cdv ct : Value} {od an : Option Addr} {osl : Array (Option Value)}
    (a : PySem.W.nsIn K mainGlobals "place_of" = some (some (.ref f))) (l : K.lookup f = some ⟨oc, od, .func (PySem.W.fnOf "place_of" "place_of" (defArgs s_place_of) (defBody s_place_of) (defScope s_place_of) .none kV doc pm an cdv ct), osl⟩) (c : PySem.W.codeIn K cdv "place_of" = true) (k : PySem.W.keepIn K (.ref f) = true) : (DefAt K mg "place_of" s_place_of ["standing", "node", "number"]) ∧ KwAt K mg "place_of" ["standing", "node", "number"] ["number", "node", "standing"] revL :=
  ⟨defAt_of X G (fun _ _ _ _ _ _ us hl => match us, hl with | [_, _, _], _ => rfl) a l c k, kwAt_of X G (fun _ _ _ _ _ _ _ ws hl => match ws, hl with | [_, _, _], _ => .of_eq rfl) revL_rel a l⟩
theorem da_standing_with {K : PySem.W.Frag} {h : Heap} {mg : Str → Option Value} (X : K.In h) (G : h.Ns mainGlobals mg) {f : Addr} {oc kV doc pm cdv ct : Value} {od an : Option Addr} {osl : Array (Option Value)}
    (a : PySem.W.nsIn K mainGlobals "standing_with" = some (some (.ref f))) (l : K.lookup f = some ⟨oc, od, .func (PySem.W.fnOf "standing_with" "standing_with" (defArgs s_standing_with) (defBody s_standing_with) (defScope s_standing_with) .none kV doc pm an cdv ct), osl⟩) (c : PySem.W.codeIn K cdv "standing_with" = true) (k : PySem.W.keepIn K (.ref f) = true) : DefAt K mg "standing_with" s_standing_with ["form", "lines"] :=
  defAt_of X G (fun _ _ _ _ _ _ us hl => match us, hl with | [_, _], _ => rfl) a l c k
theorem da_law_tape {K : PySem.W.Frag} {h : Heap} {mg : Str → Option Value} (X : K.In h) (G : h.Ns mainGlobals mg) {f : Addr} {oc kV doc pm cdv ct : Value} {od an : Option Addr} {osl : Array (Option Value)}
    (a : PySem.W.nsIn K mainGlobals "_law_tape" = some (some (.ref f))) (l : K.lookup f = some ⟨oc, od, .func (PySem.W.fnOf "_law_tape" "_law_tape" (defArgs s_law_tape) (defBody s_law_tape) (defScope s_law_tape) .none kV doc pm an cdv ct), osl⟩) (c : PySem.W.codeIn K cdv "_law_tape" = true) (k : PySem.W.keepIn K (.ref f) = true) : DefAt K mg "_law_tape" s_law_tape ["script"] :=
  defAt_of X G (fun _ _ _ _ _ _ us hl => match us, hl with | [_], _ => rfl) a l c k
theorem da_law_draw {K : PySem.W.Frag} {h : Heap} {mg : Str → Option Value} (X : K.In h) (G : h.Ns mainGlobals mg) {f : Addr} {oc kV doc pm cdv ct : Value} {od an : Option Addr} {osl : Array (Option Value)}
    (a : PySem.W.nsIn K mainGlobals "_law_draw" = some (some (.ref f))) (l : K.lookup f = some ⟨oc, od, .func (PySem.W.fnOf "_law_draw" "_law_draw" (defArgs s_law_draw) (defBody s_law_draw) (defScope s_law_draw) .none kV doc pm an cdv ct), osl⟩) (c : PySem.W.codeIn K cdv "_law_draw" = true) (k : PySem.W.keepIn K (.ref f) = true) : DefAt K mg "_law_draw" s_law_draw ["tape", "many"] :=
  defAt_of X G (fun _ _ _ _ _ _ us hl => match us, hl with | [_, _], _ => rfl) a l c k
theorem da_law_same {K : PySem.W.Frag} {h : Heap} {mg : Str → Option Value} (X : K.In h) (G : h.Ns mainGlobals mg) {f : Addr} {oc kV doc pm cdv ct : Value} {od an : Option Addr} {osl : Array (Option Value)}
    (a : PySem.W.nsIn K mainGlobals "_law_same" = some (some (.ref f))) (l : K.lookup f = some ⟨oc, od, .func (PySem.W.fnOf "_law_same" "_law_same" (defArgs s_law_same) (defBody s_law_same) (defScope s_law_same) .none kV doc pm an cdv ct), osl⟩) (c : PySem.W.codeIn K cdv "_law_same" = true) (k : PySem.W.keepIn K (.ref f) = true) : DefAt K mg "_law_same" s_law_same ["one", "other"] :=
  defAt_of X G (fun _ _ _ _ _ _ us hl => match us, hl with | [_, _], _ => rfl) a l c k
theorem da_law_form {K : PySem.W.Frag} {h : Heap} {mg : Str → Option Value} (X : K.In h) (G : h.Ns mainGlobals mg) {f : Addr} {oc kV doc pm cdv ct : Value} {od an : Option Addr} {osl : Array (Option Value)}
    (a : PySem.W.nsIn K mainGlobals "_law_form" = some (some (.ref f))) (l : K.lookup f = some ⟨oc, od, .func (PySem.W.fnOf "_law_form" "_law_form" (defArgs s_law_form) (defBody s_law_form) (defScope s_law_form) .none kV doc pm an cdv ct), osl⟩) (c : PySem.W.codeIn K cdv "_law_form" = true) (k : PySem.W.keepIn K (.ref f) = true) : DefAt K mg "_law_form" s_law_form ["tape"] :=
  defAt_of X G (fun _ _ _ _ _ _ us hl => match us, hl with | [_], _ => rfl) a l c k
theorem da_law_tree {K : PySem.W.Frag} {h : Heap} {mg : Str → Option Value} (X : K.In h) (G : h.Ns mainGlobals mg) {f : Addr} {oc kV doc pm cdv ct : Value} {od an : Option Addr} {osl : Array (Option Value)}
    (a : PySem.W.nsIn K mainGlobals "_law_tree" = some (some (.ref f))) (l : K.lookup f = some ⟨oc, od, .func (PySem.W.fnOf "_law_tree" "_law_tree" (defArgs s_law_tree) (defBody s_law_tree) (defScope s_law_tree) .none kV doc pm an cdv ct), osl⟩) (c : PySem.W.codeIn K cdv "_law_tree" = true) (k : PySem.W.keepIn K (.ref f) = true) : DefAt K mg "_law_tree" s_law_tree ["form"] :=
  defAt_of X G (fun _ _ _ _ _ _ us hl => match us, hl with | [_], _ => rfl) a l c k
theorem da_law_take {K : PySem.W.Frag} {h : Heap} {mg : Str → Option Value} (X : K.In h) (G : h.Ns mainGlobals mg) {f : Addr} {oc kV doc pm cdv ct : Value} {od an : Option Addr} {osl : Array (Option Value)}
    (a : PySem.W.nsIn K mainGlobals "_law_take" = some (some (.ref f))) (l : K.lookup f = some ⟨oc, od, .func (PySem.W.fnOf "_law_take" "_law_take" (defArgs s_law_take) (defBody s_law_take) (defScope s_law_take) .none kV doc pm an cdv ct), osl⟩) (c : PySem.W.codeIn K cdv "_law_take" = true) (k : PySem.W.keepIn K (.ref f) = true) : DefAt K mg "_law_take" s_law_take ["tree", "bags", "start"] :=
  defAt_of X G (fun _ _ _ _ _ _ us hl => match us, hl with | [_, _, _], _ => rfl) a l c k
theorem da_law_row {K : PySem.W.Frag} {h : Heap} {mg : Str → Option Value} (X : K.In h) (G : h.Ns mainGlobals mg) {f : Addr} {oc kV doc pm cdv ct : Value} {od an : Option Addr} {osl : Array (Option Value)}
    (a : PySem.W.nsIn K mainGlobals "_law_row" = some (some (.ref f))) (l : K.lookup f = some ⟨oc, od, .func (PySem.W.fnOf "_law_row" "_law_row" (defArgs s_law_row) (defBody s_law_row) (defScope s_law_row) .none kV doc pm an cdv ct), osl⟩) (c : PySem.W.codeIn K cdv "_law_row" = true) (k : PySem.W.keepIn K (.ref f) = true) : DefAt K mg "_law_row" s_law_row ["tree", "bags", "start"] :=
  defAt_of X G (fun _ _ _ _ _ _ us hl => match us, hl with | [_, _, _], _ => rfl) a l c k
theorem da_law_held {K : PySem.W.Frag} {h : Heap} {mg : Str → Option Value} (X : K.In h) (G : h.Ns mainGlobals mg) {f : Addr} {oc kV doc pm cdv ct : Value} {od an : Option Addr} {osl : Array (Option Value)}
    (a : PySem.W.nsIn K mainGlobals "_law_held" = some (some (.ref f))) (l : K.lookup f = some ⟨oc, od, .func (PySem.W.fnOf "_law_held" "_law_held" (defArgs s_law_held) (defBody s_law_held) (defScope s_law_held) .none kV doc pm an cdv ct), osl⟩) (c : PySem.W.codeIn K cdv "_law_held" = true) (k : PySem.W.keepIn K (.ref f) = true) : DefAt K mg "_law_held" s_law_held ["tree", "bags", "node"] :=
  defAt_of X G (fun _ _ _ _ _ _ us hl => match us, hl with | [_, _, _], _ => rfl) a l c k
theorem da_law_push {K : PySem.W.Frag} {h : Heap} {mg : Str → Option Value} (X : K.In h) (G : h.Ns mainGlobals mg) {f : Addr} {oc kV doc pm cdv ct : Value} {od an : Option Addr} {osl : Array (Option Value)}
    (a : PySem.W.nsIn K mainGlobals "_law_push" = some (some (.ref f))) (l : K.lookup f = some ⟨oc, od, .func (PySem.W.fnOf "_law_push" "_law_push" (defArgs s_law_push) (defBody s_law_push) (defScope s_law_push) .none kV doc pm an cdv ct), osl⟩) (c : PySem.W.codeIn K cdv "_law_push" = true) (k : PySem.W.keepIn K (.ref f) = true) : DefAt K mg "_law_push" s_law_push ["tree", "bags", "came", "packet", "queue", "ranks"] :=
  defAt_of X G (fun _ _ _ _ _ _ us hl => match us, hl with | [_, _, _, _, _, _], _ => rfl) a l c k
theorem da_law_rank {K : PySem.W.Frag} {h : Heap} {mg : Str → Option Value} (X : K.In h) (G : h.Ns mainGlobals mg) {f : Addr} {oc kV doc pm cdv ct : Value} {od an : Option Addr} {osl : Array (Option Value)}
    (a : PySem.W.nsIn K mainGlobals "_law_rank" = some (some (.ref f))) (l : K.lookup f = some ⟨oc, od, .func (PySem.W.fnOf "_law_rank" "_law_rank" (defArgs s_law_rank) (defBody s_law_rank) (defScope s_law_rank) .none kV doc pm an cdv ct), osl⟩) (c : PySem.W.codeIn K cdv "_law_rank" = true) (k : PySem.W.keepIn K (.ref f) = true) : DefAt K mg "_law_rank" s_law_rank ["tape", "manner"] :=
  defAt_of X G (fun _ _ _ _ _ _ us hl => match us, hl with | [_, _], _ => rfl) a l c k
theorem da_law_ask {K : PySem.W.Frag} {h : Heap} {mg : Str → Option Value} (X : K.In h) (G : h.Ns mainGlobals mg) {f : Addr} {oc kV doc pm cdv ct : Value} {od an : Option Addr} {osl : Array (Option Value)}
    (a : PySem.W.nsIn K mainGlobals "_law_ask" = some (some (.ref f))) (l : K.lookup f = some ⟨oc, od, .func (PySem.W.fnOf "_law_ask" "_law_ask" (defArgs s_law_ask) (defBody s_law_ask) (defScope s_law_ask) .none kV doc pm an cdv ct), osl⟩) (c : PySem.W.codeIn K cdv "_law_ask" = true) (k : PySem.W.keepIn K (.ref f) = true) : DefAt K mg "_law_ask" s_law_ask ["word", "standing", "node", "number"] :=
  defAt_of X G (fun _ _ _ _ _ _ us hl => match us, hl with | [_, _, _, _], _ => rfl) a l c k
theorem da_law_looks {K : PySem.W.Frag} {h : Heap} {mg : Str → Option Value} (X : K.In h) (G : h.Ns mainGlobals mg) {f : Addr} {oc kV doc pm cdv ct : Value} {od an : Option Addr} {osl : Array (Option Value)}
    (a : PySem.W.nsIn K mainGlobals "_law_looks" = some (some (.ref f))) (l : K.lookup f = some ⟨oc, od, .func (PySem.W.fnOf "_law_looks" "_law_looks" (defArgs s_law_looks) (defBody s_law_looks) (defScope s_law_looks) .none kV doc pm an cdv ct), osl⟩) (c : PySem.W.codeIn K cdv "_law_looks" = true) (k : PySem.W.keepIn K (.ref f) = true) : DefAt K mg "_law_looks" s_law_looks ["tape", "tree", "bags", "standing", "absent"] :=
  defAt_of X G (fun _ _ _ _ _ _ us hl => match us, hl with | [_, _, _, _, _], _ => rfl) a l c k
theorem da_law_departed {K : PySem.W.Frag} {h : Heap} {mg : Str → Option Value} (X : K.In h) (G : h.Ns mainGlobals mg) {f : Addr} {oc kV doc pm cdv ct : Value} {od an : Option Addr} {osl : Array (Option Value)}
    (a : PySem.W.nsIn K mainGlobals "_law_departed" = some (some (.ref f))) (l : K.lookup f = some ⟨oc, od, .func (PySem.W.fnOf "_law_departed" "_law_departed" (defArgs s_law_departed) (defBody s_law_departed) (defScope s_law_departed) .none kV doc pm an cdv ct), osl⟩) (c : PySem.W.codeIn K cdv "_law_departed" = true) (k : PySem.W.keepIn K (.ref f) = true) : DefAt K mg "_law_departed" s_law_departed ["tree", "bags", "standing"] :=
  defAt_of X G (fun _ _ _ _ _ _ us hl => match us, hl with | [_, _, _], _ => rfl) a l c k
theorem da_law_last {K : PySem.W.Frag} {h : Heap} {mg : Str → Option Value} (X : K.In h) (G : h.Ns mainGlobals mg) {f : Addr} {oc kV doc pm cdv ct : Value} {od an : Option Addr} {osl : Array (Option Value)}
    (a : PySem.W.nsIn K mainGlobals "_law_last" = some (some (.ref f))) (l : K.lookup f = some ⟨oc, od, .func (PySem.W.fnOf "_law_last" "_law_last" (defArgs s_law_last) (defBody s_law_last) (defScope s_law_last) .none kV doc pm an cdv ct), osl⟩) (c : PySem.W.codeIn K cdv "_law_last" = true) (k : PySem.W.keepIn K (.ref f) = true) : DefAt K mg "_law_last" s_law_last ["tape", "tree", "bags", "standing", "packet"] :=
  defAt_of X G (fun _ _ _ _ _ _ us hl => match us, hl with | [_, _, _, _, _], _ => rfl) a l c k
theorem da_law_refused {K : PySem.W.Frag} {h : Heap} {mg : Str → Option Value} (X : K.In h) (G : h.Ns mainGlobals mg) {f : Addr} {oc kV doc pm cdv ct : Value} {od an : Option Addr} {osl : Array (Option Value)}
    (a : PySem.W.nsIn K mainGlobals "_law_refused" = some (some (.ref f))) (l : K.lookup f = some ⟨oc, od, .func (PySem.W.fnOf "_law_refused" "_law_refused" (defArgs s_law_refused) (defBody s_law_refused) (defScope s_law_refused) .none kV doc pm an cdv ct), osl⟩) (c : PySem.W.codeIn K cdv "_law_refused" = true) (k : PySem.W.keepIn K (.ref f) = true) : DefAt K mg "_law_refused" s_law_refused ["tree", "standing", "form"] :=
  defAt_of X G (fun _ _ _ _ _ _ us hl => match us, hl with | [_, _, _], _ => rfl) a l c k
theorem all_grow {P : Program} {w : World} {K : PySem.W.Frag} {mg : Str → Option Value} {base : Heap} {C f : Addr} {fd : FuncData} (F : Fun K "_grow" "ShapeTree._grow" s_ShapeTree_grow f fd) (b : Binds K fd ["self", "bough", "above", "side"] []) (T : Txt K mg) (TC : TCl K mg C f) :
    ∀ n, FnOk P w K mg base CX0 n f fd ["self", "bough", "above", "side"] (spGrow K C n)
  | 0 => by
    have no : ∀ vs H Q E, ¬ spGrow K C 0 vs H Q E := fun vs H Q E h => by
      obtain ⟨a, b, ab, dx, bs, T, u, p, fv, L, S, _, _, _, _, _, _, _, h, _⟩ := h
      exact absurd h (Nat.not_lt_zero _)
    exact ⟨fun vs H Q E h => absurd h (no vs H Q E), fun A outer s H args us vs Q E _ _ _ _ h => absurd h (no vs H Q E)⟩
  | n + 1 => ok_grow F b (all_grow F b T TC n) T TC
theorem law_ok {P : Program} {w : World} {K : PySem.W.Frag} {mg : Str → Option Value} {base : Heap} {C CS U B S PA fI fC fG fL ftI ftP ftD ftO ftA ftW : Addr} {fdC fdG fdL fdtI fdtP fdtD fdtO fdtA fdtW : FuncData} (N : NUT K mg U fI) (EE : EK K mg U B S PA) (T : Txt K mg) (mabs : mg "abs" = none) (mzip : mg "zip" = none) (TC : TCl K mg C fG) (SC : StCl K CS) (IS : IsS K mg CS) (mk : ∃ t, mg "MOST_CHILDREN" = some (.int 6 t))
    (mi : ∃ t, mg "MOST_INTEGERS" = some (.int 8 t)) (mr : ∃ t, mg "RANK_BOUND" = some (.int rankB t)) (mp : ∃ t, mg "PACKET_BOUND" = some (.int packB t))
    (FG : Fun K "_grow" "ShapeTree._grow" s_ShapeTree_grow fG fdG) (bG : Binds K fdG ["self", "bough", "above", "side"] []) (M : Mk K C fC) (gC : mg "ShapeTree" = some (.ref C)) (FC : Fun K "__init__" "ShapeTree.__init__" s_ShapeTree_init fC fdC) (bC : Binds K fdC ["self", "form"] [])
    (MS : Mk K CS ftI)
    (FtI : Fun K "__init__" "Standing.__init__" s_Standing_init ftI fdtI) (btI : Binds K fdtI ["self", "form"] []) (mtI : Meth K CS "__init__" ftI)
    (FtP : Fun K "push" "Standing.push" s_Standing_push ftP fdtP) (btP : Binds K fdtP ["self", "number", "queue", "ranks"] []) (mtP : Meth K CS "push" ftP)
    (FtD : Fun K "depart" "Standing.depart" s_Standing_depart ftD fdtD) (btD : Binds K fdtD ["self"] []) (mtD : Meth K CS "depart" ftD)
    (FtO : Fun K "order" "Standing.order" s_Standing_order ftO fdtO) (btO : Binds K fdtO ["self"] []) (mtO : Meth K CS "order" ftO)
    (FtA : Fun K "all_lines" "Standing.all_lines" s_Standing_all_lines ftA fdtA) (btA : Binds K fdtA ["self"] []) (mtA : Meth K CS "all_lines" ftA)
    (FtW : Fun K "twin" "Standing.twin" s_Standing_twin ftW fdtW) (btW : Binds K fdtW ["self"] []) (mtW : Meth K CS "twin" ftW)
    (D_is_integer : DefAt K mg "is_integer" s_is_integer ["thing"]) (D_is_number : DefAt K mg "is_number" s_is_number ["thing"]) (D_is_below : DefAt K mg "is_below" s_is_below ["thing", "bound"]) (D_need : DefAt K mg "need" s_need ["fits", "word"]) (D_is_shape : DefAt K mg "is_shape" s_is_shape ["thing"]) (D_has_forks_of : DefAt K mg "has_forks_of" s_has_forks_of ["thing", "least"]) (D_need_shape : DefAt K mg "need_shape" s_need_shape ["form", "word"]) (D_need_queue : DefAt K mg "need_queue" s_need_queue ["tree", "queue", "word"]) (D_shape_tree : DefAt K mg "shape_tree" s_shape_tree ["form", "word"]) (D_is_rank : DefAt K mg "is_rank" s_is_rank ["thing"]) (D_fit_path : DefAt K mg "fit_path" s_fit_path ["tree", "queue", "thing"]) (D_place_behind : DefAt K mg "place_behind" s_place_behind ["line", "rank"]) (D_need_absent : DefAt K mg "need_absent" s_need_absent ["standing", "number"]) (D_need_node : DefAt K mg "need_node" s_need_node ["tree", "node", "word"]) (D_is_within : DefAt K mg "is_within" s_is_within ["tree", "node", "top"]) (D_order_at : DefAt K mg "order_at" s_order_at ["tree", "lines", "node"]) (D_need_standing : DefAt K mg "need_standing" s_need_standing ["standing", "word"]) (D_order_of : (DefAt K mg "order_of" s_order_of ["standing", "node"]) ∧ KwAt K mg "order_of" ["standing", "node"] ["node", "standing"] revL) (D_place_of : (DefAt K mg "place_of" s_place_of ["standing", "node", "number"]) ∧ KwAt K mg "place_of" ["standing", "node", "number"] ["number", "node", "standing"] revL) (D_standing_with : DefAt K mg "standing_with" s_standing_with ["form", "lines"]) (D_law_tape : DefAt K mg "_law_tape" s_law_tape ["script"]) (D_law_draw : DefAt K mg "_law_draw" s_law_draw ["tape", "many"]) (D_law_same : DefAt K mg "_law_same" s_law_same ["one", "other"]) (D_law_form : DefAt K mg "_law_form" s_law_form ["tape"]) (D_law_tree : DefAt K mg "_law_tree" s_law_tree ["form"]) (D_law_take : DefAt K mg "_law_take" s_law_take ["tree", "bags", "start"]) (D_law_row : DefAt K mg "_law_row" s_law_row ["tree", "bags", "start"]) (D_law_held : DefAt K mg "_law_held" s_law_held ["tree", "bags", "node"]) (D_law_push : DefAt K mg "_law_push" s_law_push ["tree", "bags", "came", "packet", "queue", "ranks"]) (D_law_rank : DefAt K mg "_law_rank" s_law_rank ["tape", "manner"]) (D_law_ask : DefAt K mg "_law_ask" s_law_ask ["word", "standing", "node", "number"]) (D_law_looks : DefAt K mg "_law_looks" s_law_looks ["tape", "tree", "bags", "standing", "absent"]) (D_law_departed : DefAt K mg "_law_departed" s_law_departed ["tree", "bags", "standing"]) (D_law_last : DefAt K mg "_law_last" s_law_last ["tape", "tree", "bags", "standing", "packet"]) (D_law_refused : DefAt K mg "_law_refused" s_law_refused ["tree", "standing", "form"])
    (FL : Fun K "law" "law" s_law fL fdL) : FnOk P w K mg base CX0 29 fL fdL ["script"] (spLaw K) := by
  have GI := ok_integer (P := P) (w := w) (base := base) D_is_integer T
  have GNm := ok_number D_is_number GI
  have GB := ok_below D_is_below GNm
  have GN := ok_need (P := P) (w := w) (base := base) D_need N
  have GFo := ok_forks (P := P) (w := w) (base := base) D_has_forks_of T mk
  have GSh := ok_isShape D_is_shape GFo
  have GNS := ok_needShape (U := U) D_need_shape GSh GN
  have GG := all_grow (P := P) (w := w) (base := base) FG bG T TC 20
  have GIn := ok_init FC bG GG TC GNS
  have GQu := ok_need_queue (C := C) D_need_queue T TC GB GN
  have GST := ok_shapeTree D_shape_tree M gC bC GIn GNS
  have GR := ok_rank D_is_rank T mi mr GI
  have GFi := ok_fit (C := C) D_fit_path T TC GR
  have GBe := ok_behindL (P := P) (w := w) (base := base) D_place_behind T
  have GAb := ok_absent D_need_absent SC mp GB GN
  have FPu := ok_push FtP T mzip SC TC GAb GQu GN GFi GBe
  have FDe := ok_depart (P := P) (w := w) (base := base) FtD T SC TC
  have GOA := ok_orderAt (P := P) (w := w) (base := base) D_order_at T TC 20
  have FOr := ok_order FtO T SC GOA
  have FAl := ok_allL (P := P) (w := w) (C := C) (mg := mg) (base := base) FtA T SC
  have GNo := ok_need_node (C := C) D_need_node T TC GB GN
  have GWi := ok_within (P := P) (w := w) (base := base) D_is_within TC
  have GNSt := ok_needSt D_need_standing T SC IS GN
  have GOf := ok_orderOf D_order_of.1 T SC GNSt GNo GOA
  have GPl := ok_placeOf D_place_of.1 T mp SC TC GNSt GNo GB GN GWi GOA
  have FMa := ok_made FtI SC TC GST
  have GWt := ok_with D_standing_with T T.enumerate T.list SC TC MS IS.mg btI FMa
  have FTw := ok_twin FtW SC TC GWt
  have MAl : MQ P w K mg base CS 1 "all_lines" ["self"] (spAllL K C CS) := ⟨_, _, mtA, FAl, btA⟩
  have MTw : MQ P w K mg base CS 27 "twin" ["self"] (spTwin K C CS) := ⟨_, _, mtW, twinQ FTw, btW⟩
  have MDe : MQ P w K mg base CS 5 "depart" ["self"] (spDepart K C CS) := ⟨_, _, mtD, FDe, btD⟩
  have MOr : MQ P w K mg base CS 21 "order" ["self"] (spOrder K C CS) := ⟨_, _, mtO, FOr, btO⟩
  have MPu : MQ P w K mg base CS 5 "push" ["self", "number", "queue", "ranks"] (spPushQ K C CS) := ⟨_, _, mtP, pushQ FPu, btP⟩
  have GTa := ok_tape (P := P) (w := w) (base := base) D_law_tape T mabs
  have GDr := ok_draw (P := P) (w := w) (base := base) D_law_draw T
  have GSa := ok_same (P := P) (w := w) (base := base) D_law_same T 20
  have GFm := ok_form D_law_form T GDr
  have GTr := ok_tree (P := P) (w := w) (base := base) D_law_tree T
  have GTk := ok_take (P := P) (w := w) (base := base) D_law_take T
  have GRo := ok_row D_law_row T GTk
  have GHe := ok_held (P := P) (w := w) (base := base) D_law_held T
  have GPs := ok_psh (P := P) (w := w) (base := base) D_law_push T
  have GRk := ok_mkrank D_law_rank T GDr
  have GAs := ok_ask D_law_ask T N EE GOf D_order_of.2 GPl D_place_of.2
  have GLk := ok_looks D_law_looks T SC GDr GSa GRo GHe GAs MAl MOr
  have GDp := ok_departed D_law_departed T SC GRo GTk GSa (ordQ GOf) MAl MTw MDe MOr
  have GLa := ok_last D_law_last T SC GDr GSa (ordQ GOf) (plQ GPl) MTw MPu MOr
  have GRf := ok_refused D_law_refused T SC GSa GAs MAl
  exact ok_law FL T SC MS IS.mg btI (madeQ FMa) GTa GFm GTr GDr GSa GLk GTk GRk GPs GDp GLa GRf MDe MPu
end K26
set_option Elab.async false
set_option linter.all false
set_option maxRecDepth 100000
namespace K26
open PySem PySem.Spec PyProof.Rows L2 Dt
theorem te_of {K : PySem.W.Frag} {U : Addr} (b : PySem.W.subIn K (.ref U) (.type "BaseException") = some true) (i : PySem.W.isClsIn K U = true) (t : PySem.W.typeIn K (.ref U) = some (.type "type")) (s : PySem.W.subIn K (.ref U) (.ref U) = some true) : PySem.W.exmOne K (.ref U) (.ref U) = some true := by
  unfold PySem.W.isClsIn at i
  unfold PySem.W.exmOne PySem.W.kitCls
  rw [b]
  simp [i, t, s]
theorem ex_of {K : PySem.W.Frag} {U B : Addr} (b : PySem.W.subIn K (.ref B) (.type "BaseException") = some true) (i : PySem.W.isClsIn K B = true) (t : PySem.W.typeIn K (.ref B) = some (.type "type")) (s : PySem.W.subIn K (.ref U) (.ref B) = some true) : PySem.W.exmOne K (.ref U) (.ref B) = some true := by
  unfold PySem.W.isClsIn at i
  unfold PySem.W.exmOne PySem.W.kitCls
  rw [b]
  simp [i, t, s]
theorem kit_of {K : PySem.W.Frag} {U B : Addr} {b : Bool} (ne : U ≠ B ∨ b = true) (i : PySem.W.isClsIn K B = true) (t : PySem.W.typeIn K (.ref B) = some (.type "type")) (s : PySem.W.subIn K (.ref U) (.ref B) = some b) : PySem.W.kitOne K (.ref U) (.ref B) = some b := by
  unfold PySem.W.isClsIn at i
  unfold PySem.W.kitOne PySem.W.kitCls
  by_cases e : U = B
  · subst e
    rcases ne with ne | ne
    · exact absurd rfl ne
    · rw [ne]
      simp
  · have : (Value.ref U == Value.ref B) = false := by
      simpa using e
    rw [this]
    simp [i, t, s]
theorem kit_ofT {K : PySem.W.Frag} {B : Addr} {t : String} {b : Bool} (i : PySem.W.isClsIn K B = true) (ty : PySem.W.typeIn K (.ref B) = some (.type "type")) (s : PySem.W.subIn K (.type t) (.ref B) = some b) : PySem.W.kitOne K (.type t) (.ref B) = some b := by
  unfold PySem.W.isClsIn at i
  unfold PySem.W.kitOne PySem.W.kitCls
  have : (Value.type t == Value.ref B) = false := by simp
  rw [this]
  simp [i, ty, s]
theorem all_mk {l : PySem.W.OpenLaw} {w : World} {K : PySem.W.Frag} {h : Heap} {mg : Str → Option Value} {fa C CS U B S PA fI fC fG ftI ftP ftD ftO ftA ftW : Addr} (X : K.In h) (G : h.Ns mainGlobals mg) (hfa : mg "law" = some (.ref fa))
    {ocI kVI docI pmI cdI ctI ocC kVC docC pmC cdC ctC ocG kVG docG pmG cdG ctG ocL kVL docL pmL cdL ctL : Value} {odI anI odC anC odG anG odL anL : Option Addr} {slI slC slG slL : Array (Option Value)}
    {nm q : Str} {NN : Addr} {bs bm : List Value} {sn : List Str} {sub : List Value} {ab : Bool} {col : Option Bool} {dd : Option Addr} {x0 x1 x2 x3 x5 : Option Value} {tM tI8 tR tP : Tok} {fL : Addr} {octI kVtI doctI pmtI cdtI cttI : Value} {odtI antI : Option Addr} {sltI : Array (Option Value)} {octP kVtP doctP pmtP cdtP cttP : Value} {odtP antP : Option Addr} {sltP : Array (Option Value)} {octD kVtD doctD pmtD cdtD cttD : Value} {odtD antD : Option Addr} {sltD : Array (Option Value)} {octO kVtO doctO pmtO cdtO cttO : Value} {odtO antO : Option Addr} {sltO : Array (Option Value)} {octA kVtA doctA pmtA cdtA cttA : Value} {odtA antA : Option Addr} {sltA : Array (Option Value)} {octW kVtW doctW pmtW cdtW cttW : Value} {odtW antW : Option Addr} {sltW : Array (Option Value)}
    (aU : PySem.W.nsIn K mainGlobals "NotUsable" = some (some (.ref U)))
    (xL : K.lookup U = some (excClassObj nm q U NN bs bm true sn sub ab col dd x0 x1 x2 x3 x5 "ValueError.__new__")) (xm : PySem.HandSPX.refsVE bm = true)
    (saU : PySem.W.findIn K (.ref U) "__setattr__" = some (some (.builtin "object.__setattr__"))) (exU : PySem.W.subIn K (.ref U) (.type "BaseException") = some true) (tyU : PySem.W.typeIn K (.ref U) = some (.type "type")) (kU : PySem.W.keepIn K (.ref U) = true)
    (xga : PySem.W.findIn K (.ref U) "__getattribute__" = some (some (.builtin "BaseException.__getattribute__"))) (xgg : PySem.W.findIn K (.ref U) "__getattr__" = some none) (xhd : PySem.W.hasDictIn K U = true) (nw : PySem.W.findIn K (.ref U) "word" = some none) (na : PySem.W.findIn K (.ref U) "at" = some none)
    (iI : PySem.W.findIn K (.ref U) "__init__" = some (some (.ref fI))) (tI : PySem.W.typeIn K (.ref fI) = some (.type "function")) (tc : PySem.W.isClsIn K U = true) (ts : PySem.W.subIn K (.ref U) (.ref U) = some true)
    (lI : K.lookup fI = some ⟨ocI, odI, .func (PySem.W.fnOf "__init__" "NotUsable.__init__" (defArgs s_NotUsable_init) (defBody s_NotUsable_init) (defScope s_NotUsable_init) .none kVI docI pmI anI cdI ctI), slI⟩) (cI : PySem.W.codeIn K cdI "NotUsable.__init__" = true) (kI : PySem.W.keepIn K (.ref fI) = true)
    (aC : PySem.W.nsIn K mainGlobals "ShapeTree" = some (some (.ref C))) (mM : PySem.W.nsIn K mainGlobals "MOST_CHILDREN" = some (some (.int 6 tM))) (mI : PySem.W.nsIn K mainGlobals "MOST_INTEGERS" = some (some (.int 8 tI8))) (mR : PySem.W.nsIn K mainGlobals "RANK_BOUND" = some (some (.int rankB tR))) (mP : PySem.W.nsIn K mainGlobals "PACKET_BOUND" = some (some (.int packB tP)))
    (aB : PySem.W.nsIn K mainGlobals "BoughError" = some (some (.ref B))) (aS : PySem.W.nsIn K mainGlobals "ShapeError" = some (some (.ref S))) (aP : PySem.W.nsIn K mainGlobals "InvalidPaper" = some (some (.ref PA)))
    (bB : PySem.W.subIn K (.ref B) (.type "BaseException") = some true) (iB : PySem.W.isClsIn K B = true) (tB : PySem.W.typeIn K (.ref B) = some (.type "type")) (sB : PySem.W.subIn K (.ref U) (.ref B) = some true)
    (iS : PySem.W.isClsIn K S = true) (tS : PySem.W.typeIn K (.ref S) = some (.type "type")) (sS : PySem.W.subIn K (.ref U) (.ref S) = some true)
    (iP : PySem.W.isClsIn K PA = true) (tP2 : PySem.W.typeIn K (.ref PA) = some (.type "type")) (sP : PySem.W.subIn K (.ref U) (.ref PA) = some false)
    (ha : PySem.W.findIn K (.ref U) "__class__" = some (some (.builtin "object.__class__"))) (hn : PySem.W.specialIn K (.builtin "object.__class__") "__get__" = some (some (.builtin "getset_descriptor.__get__"))) (ht : PySem.W.takesIn K (.builtin "object.__class__") = some true) (hm : PySem.W.mroIn K U (.type "object") = some true)
    (pg : PySem.W.plainGet K C Str.empty = true) (hd : PySem.W.hasDictIn K C = true) (po : PySem.W.plainOver K C = true) (sa : PySem.W.findIn K (.ref C) "__setattr__" = some (some (.builtin "object.__setattr__"))) (mk : PySem.W.makesIn K C = true) (kC : PySem.W.keepIn K (.ref C) = true)
    (iC : PySem.W.findIn K (.ref C) "__init__" = some (some (.ref fC))) (fC1 : PySem.W.isFn K (.ref fC) = true) (lC : K.lookup fC = some ⟨ocC, odC, .func (PySem.W.fnOf "__init__" "ShapeTree.__init__" (defArgs s_ShapeTree_init) (defBody s_ShapeTree_init) (defScope s_ShapeTree_init) .none kVC docC pmC anC cdC ctC), slC⟩) (cC : PySem.W.codeIn K cdC "ShapeTree.__init__" = true) (kC1 : PySem.W.keepIn K (.ref fC) = true)
    (iG : PySem.W.findIn K (.ref C) "_grow" = some (some (.ref fG))) (fG1 : PySem.W.isFn K (.ref fG) = true) (lG : K.lookup fG = some ⟨ocG, odG, .func (PySem.W.fnOf "_grow" "ShapeTree._grow" (defArgs s_ShapeTree_grow) (defBody s_ShapeTree_grow) (defScope s_ShapeTree_grow) .none kVG docG pmG anG cdG ctG), slG⟩) (cG : PySem.W.codeIn K cdG "ShapeTree._grow" = true) (kG : PySem.W.keepIn K (.ref fG) = true)
    (aL : PySem.W.nsIn K mainGlobals "law" = some (some (.ref fL))) (lL : K.lookup fL = some ⟨ocL, odL, .func (PySem.W.fnOf "law" "law" (defArgs s_law) (defBody s_law) (defScope s_law) .none kVL docL pmL anL cdL ctL), slL⟩) (cL : PySem.W.codeIn K cdL "law" = true) (kL : PySem.W.keepIn K (.ref fL) = true)
    (aT : PySem.W.nsIn K mainGlobals "Standing" = some (some (.ref CS))) (pgT : PySem.W.plainGet K CS Str.empty = true) (hdT : PySem.W.hasDictIn K CS = true) (poT : PySem.W.plainOver K CS = true) (saT : PySem.W.findIn K (.ref CS) "__setattr__" = some (some (.builtin "object.__setattr__"))) (mkT : PySem.W.makesIn K CS = true) (kCT : PySem.W.keepIn K (.ref CS) = true)
    (isT : PySem.W.isClsIn K CS = true) (tyT : PySem.W.typeIn K (.ref CS) = some (.type "type")) (s1T : PySem.W.subIn K (.type "int") (.ref CS) = some false) (s2T : PySem.W.subIn K (.type "bool") (.ref CS) = some false) (s3T : PySem.W.subIn K (.type "NoneType") (.ref CS) = some false) (s4T : PySem.W.subIn K (.type "str") (.ref CS) = some false) (s5T : PySem.W.subIn K (.type "tuple") (.ref CS) = some false) (s6T : PySem.W.subIn K (.type "list") (.ref CS) = some false)
    (haT : PySem.W.findIn K (.ref CS) "__class__" = some (some (.builtin "object.__class__"))) (hmT : PySem.W.mroIn K CS (.type "object") = some true) (nTt : PySem.W.findIn K (.ref CS) "tree" = some none) (nTl : PySem.W.findIn K (.ref CS) "lines" = some none) (nTs : PySem.W.findIn K (.ref CS) "seats" = some none)
    (itI : PySem.W.findIn K (.ref CS) "__init__" = some (some (.ref ftI))) (gtI : PySem.W.isFn K (.ref ftI) = true) (ltI : K.lookup ftI = some ⟨octI, odtI, .func (PySem.W.fnOf "__init__" "Standing.__init__" (defArgs s_Standing_init) (defBody s_Standing_init) (defScope s_Standing_init) .none kVtI doctI pmtI antI cdtI cttI), sltI⟩) (ctI : PySem.W.codeIn K cdtI "Standing.__init__" = true) (ktI : PySem.W.keepIn K (.ref ftI) = true)
    (itP : PySem.W.findIn K (.ref CS) "push" = some (some (.ref ftP))) (gtP : PySem.W.isFn K (.ref ftP) = true) (ltP : K.lookup ftP = some ⟨octP, odtP, .func (PySem.W.fnOf "push" "Standing.push" (defArgs s_Standing_push) (defBody s_Standing_push) (defScope s_Standing_push) .none kVtP doctP pmtP antP cdtP cttP), sltP⟩) (ctP : PySem.W.codeIn K cdtP "Standing.push" = true) (ktP : PySem.W.keepIn K (.ref ftP) = true)
    (itD : PySem.W.findIn K (.ref CS) "depart" = some (some (.ref ftD))) (gtD : PySem.W.isFn K (.ref ftD) = true) (ltD : K.lookup ftD = some ⟨octD, odtD, .func (PySem.W.fnOf "depart" "Standing.depart" (defArgs s_Standing_depart) (defBody s_Standing_depart) (defScope s_Standing_depart) .none kVtD doctD pmtD antD cdtD cttD), sltD⟩) (ctD : PySem.W.codeIn K cdtD "Standing.depart" = true) (ktD : PySem.W.keepIn K (.ref ftD) = true)
    (itO : PySem.W.findIn K (.ref CS) "order" = some (some (.ref ftO))) (gtO : PySem.W.isFn K (.ref ftO) = true) (ltO : K.lookup ftO = some ⟨octO, odtO, .func (PySem.W.fnOf "order" "Standing.order" (defArgs s_Standing_order) (defBody s_Standing_order) (defScope s_Standing_order) .none kVtO doctO pmtO antO cdtO cttO), sltO⟩) (ctO : PySem.W.codeIn K cdtO "Standing.order" = true) (ktO : PySem.W.keepIn K (.ref ftO) = true)
    (itA : PySem.W.findIn K (.ref CS) "all_lines" = some (some (.ref ftA))) (gtA : PySem.W.isFn K (.ref ftA) = true) (ltA : K.lookup ftA = some ⟨octA, odtA, .func (PySem.W.fnOf "all_lines" "Standing.all_lines" (defArgs s_Standing_all_lines) (defBody s_Standing_all_lines) (defScope s_Standing_all_lines) .none kVtA doctA pmtA antA cdtA cttA), sltA⟩) (ctA : PySem.W.codeIn K cdtA "Standing.all_lines" = true) (ktA : PySem.W.keepIn K (.ref ftA) = true)
    (itW : PySem.W.findIn K (.ref CS) "twin" = some (some (.ref ftW))) (gtW : PySem.W.isFn K (.ref ftW) = true) (ltW : K.lookup ftW = some ⟨octW, odtW, .func (PySem.W.fnOf "twin" "Standing.twin" (defArgs s_Standing_twin) (defBody s_Standing_twin) (defScope s_Standing_twin) .none kVtW doctW pmtW antW cdtW cttW), sltW⟩) (ctW : PySem.W.codeIn K cdtW "Standing.twin" = true) (ktW : PySem.W.keepIn K (.ref ftW) = true)
    (n0 : PySem.W.findIn K (.ref C) "form" = some none) (n1 : PySem.W.findIn K (.ref C) "boughs" = some none) (n2 : PySem.W.findIn K (.ref C) "parents" = some none) (n3 : PySem.W.findIn K (.ref C) "kids" = some none) (n4 : PySem.W.findIn K (.ref C) "depths" = some none) (n5 : PySem.W.findIn K (.ref C) "sides" = some none) (n6 : PySem.W.findIn K (.ref C) "lows" = some none) (n7 : PySem.W.findIn K (.ref C) "highs" = some none) (n8 : PySem.W.findIn K (.ref C) "ends" = some none) (n9 : PySem.W.findIn K (.ref C) "leaves" = some none) (n10 : PySem.W.findIn K (.ref C) "paths" = some none)
    (z0 : PySem.W.nsIn K mainGlobals "isinstance" = some none) (z1 : PySem.W.nsIn K mainGlobals "int" = some none) (z2 : PySem.W.nsIn K mainGlobals "bool" = some none) (z3 : PySem.W.nsIn K mainGlobals "tuple" = some none) (z4 : PySem.W.nsIn K mainGlobals "str" = some none) (z5 : PySem.W.nsIn K mainGlobals "len" = some none) (z6 : PySem.W.nsIn K mainGlobals "range" = some none) (z7 : PySem.W.nsIn K mainGlobals "enumerate" = some none) (z8 : PySem.W.nsIn K mainGlobals "sorted" = some none) (z9 : PySem.W.nsIn K mainGlobals "all" = some none) (z10 : PySem.W.nsIn K mainGlobals "min" = some none) (z11 : PySem.W.nsIn K mainGlobals "list" = some none) (z12 : PySem.W.nsIn K mainGlobals "abs" = some none) (z13 : PySem.W.nsIn K mainGlobals "zip" = some none)
    (D_is_integer : DefAt K mg "is_integer" s_is_integer ["thing"]) (D_is_number : DefAt K mg "is_number" s_is_number ["thing"]) (D_is_below : DefAt K mg "is_below" s_is_below ["thing", "bound"]) (D_need : DefAt K mg "need" s_need ["fits", "word"]) (D_is_shape : DefAt K mg "is_shape" s_is_shape ["thing"]) (D_has_forks_of : DefAt K mg "has_forks_of" s_has_forks_of ["thing", "least"]) (D_need_shape : DefAt K mg "need_shape" s_need_shape ["form", "word"]) (D_need_queue : DefAt K mg "need_queue" s_need_queue ["tree", "queue", "word"]) (D_shape_tree : DefAt K mg "shape_tree" s_shape_tree ["form", "word"]) (D_is_rank : DefAt K mg "is_rank" s_is_rank ["thing"]) (D_fit_path : DefAt K mg "fit_path" s_fit_path ["tree", "queue", "thing"]) (D_place_behind : DefAt K mg "place_behind" s_place_behind ["line", "rank"]) (D_need_absent : DefAt K mg "need_absent" s_need_absent ["standing", "number"]) (D_need_node : DefAt K mg "need_node" s_need_node ["tree", "node", "word"]) (D_is_within : DefAt K mg "is_within" s_is_within ["tree", "node", "top"]) (D_order_at : DefAt K mg "order_at" s_order_at ["tree", "lines", "node"]) (D_need_standing : DefAt K mg "need_standing" s_need_standing ["standing", "word"]) (D_order_of : (DefAt K mg "order_of" s_order_of ["standing", "node"]) ∧ KwAt K mg "order_of" ["standing", "node"] ["node", "standing"] revL) (D_place_of : (DefAt K mg "place_of" s_place_of ["standing", "node", "number"]) ∧ KwAt K mg "place_of" ["standing", "node", "number"] ["number", "node", "standing"] revL) (D_standing_with : DefAt K mg "standing_with" s_standing_with ["form", "lines"]) (D_law_tape : DefAt K mg "_law_tape" s_law_tape ["script"]) (D_law_draw : DefAt K mg "_law_draw" s_law_draw ["tape", "many"]) (D_law_same : DefAt K mg "_law_same" s_law_same ["one", "other"]) (D_law_form : DefAt K mg "_law_form" s_law_form ["tape"]) (D_law_tree : DefAt K mg "_law_tree" s_law_tree ["form"]) (D_law_take : DefAt K mg "_law_take" s_law_take ["tree", "bags", "start"]) (D_law_row : DefAt K mg "_law_row" s_law_row ["tree", "bags", "start"]) (D_law_held : DefAt K mg "_law_held" s_law_held ["tree", "bags", "node"]) (D_law_push : DefAt K mg "_law_push" s_law_push ["tree", "bags", "came", "packet", "queue", "ranks"]) (D_law_rank : DefAt K mg "_law_rank" s_law_rank ["tape", "manner"]) (D_law_ask : DefAt K mg "_law_ask" s_law_ask ["word", "standing", "node", "number"]) (D_law_looks : DefAt K mg "_law_looks" s_law_looks ["tape", "tree", "bags", "standing", "absent"]) (D_law_departed : DefAt K mg "_law_departed" s_law_departed ["tree", "bags", "standing"]) (D_law_last : DefAt K mg "_law_last" s_law_last ["tape", "tree", "bags", "standing", "packet"]) (D_law_refused : DefAt K mg "_law_refused" s_law_refused ["tree", "standing", "form"]) :
    ∃ fd : FuncData, (∀ (s : Shared) (v : Value), BindsTo s fd ⟨[v], []⟩ [("script", v)]) ∧ ∀ base : Heap, K.In base → base.Ns mainGlobals mg → FnOk l.prog w K mg base CX0 29 fa fd ["script"] (spLaw K) := by
  have e := hfa.symm.trans (PySem.W.mg_of X G aL)
  cases e
  have FI := fun_mk (st := s_NotUsable_init) lI cI kI
  have FC := fun_mk (st := s_ShapeTree_init) lC cC kC1
  have FG := fun_mk (st := s_ShapeTree_grow) lG cG kG
  have FL := fun_mk (st := s_law) lL cL kL
  have bI := FI.binds (ps := ["self", "word", "at"]) fun _ _ _ _ _ _ us hl => match us, hl with | [_, _, _], _ => rfl
  have bC := FC.binds (ps := ["self", "form"]) fun _ _ _ _ _ _ us hl => match us, hl with | [_, _], _ => rfl
  have bG := FG.binds (ps := ["self", "bough", "above", "side"]) fun _ _ _ _ _ _ us hl => match us, hl with | [_, _, _, _], _ => rfl
  have N : NUT K mg U fI := ⟨PySem.W.mg_of X G aU, ⟨⟨nm, q, NN, bs, bm, sn, sub, ab, col, dd, x0, x1, x2, x3, x5, xL, xm⟩, saU, exU, tyU, kU⟩, ⟨xga, xgg, exU, xhd⟩, nw, na, iI, tI, te_of exU tc tyU ts, _, FI, bI⟩
  have T : Txt K mg := ⟨PySem.W.mg_none_of X G z0, PySem.W.mg_none_of X G z1, PySem.W.mg_none_of X G z2, PySem.W.mg_none_of X G z3, PySem.W.mg_none_of X G z4, PySem.W.mg_none_of X G z5, PySem.W.mg_none_of X G z6, PySem.W.mg_none_of X G z7, PySem.W.mg_none_of X G z8, PySem.W.mg_none_of X G z9, PySem.W.mg_none_of X G z10, PySem.W.mg_none_of X G z11⟩
  have TC : TCl K mg C fG := ⟨⟨pg, hd, po, sa⟩, ⟨iG, fG1, kG⟩, n0, n1, n2, n3, n4, n5, n6, n7, n8, n9, n10⟩
  have nUP : U ≠ PA := fun z => by
    rw [← z, ts] at sP
    exact nomatch (Option.some.inj sP)
  have EE : EK K mg U B S PA := ⟨PySem.W.mg_of X G aB, PySem.W.mg_of X G aS, PySem.W.mg_of X G aP, ⟨xga, xgg, exU, xhd, ha, hn, ht, hm⟩, ex_of bB iB tB sB, kit_of (.inr rfl) iS tS sS, kit_of (.inl nUP) iP tP2 sP⟩
  have FtI := fun_mk (st := s_Standing_init) ltI ctI ktI
  have btI := FtI.binds (ps := ["self", "form"]) fun _ _ _ _ _ _ us hl => match us, hl with | [_, _], _ => rfl
  have FtP := fun_mk (st := s_Standing_push) ltP ctP ktP
  have btP := FtP.binds (ps := ["self", "number", "queue", "ranks"]) fun _ _ _ _ _ _ us hl => match us, hl with | [_, _, _, _], _ => rfl
  have FtD := fun_mk (st := s_Standing_depart) ltD ctD ktD
  have btD := FtD.binds (ps := ["self"]) fun _ _ _ _ _ _ us hl => match us, hl with | [_], _ => rfl
  have FtO := fun_mk (st := s_Standing_order) ltO ctO ktO
  have btO := FtO.binds (ps := ["self"]) fun _ _ _ _ _ _ us hl => match us, hl with | [_], _ => rfl
  have FtA := fun_mk (st := s_Standing_all_lines) ltA ctA ktA
  have btA := FtA.binds (ps := ["self"]) fun _ _ _ _ _ _ us hl => match us, hl with | [_], _ => rfl
  have FtW := fun_mk (st := s_Standing_twin) ltW ctW ktW
  have btW := FtW.binds (ps := ["self"]) fun _ _ _ _ _ _ us hl => match us, hl with | [_], _ => rfl
  have SC : StCl K CS := ⟨⟨pgT, hdT, poT, saT⟩, nTt, nTl, nTs⟩
  have IS : IsS K mg CS := ⟨PySem.W.mg_of X G aT, fun t h => by
    rcases h with rfl | rfl | rfl | rfl | rfl | rfl
    · exact kit_ofT isT tyT s1T
    · exact kit_ofT isT tyT s2T
    · exact kit_ofT isT tyT s3T
    · exact kit_ofT isT tyT s4T
    · exact kit_ofT isT tyT s5T
    · exact kit_ofT isT tyT s6T, haT, hn, ht, hmT⟩
  refine ⟨PySem.W.fnOf "law" "law" (defArgs s_law) (defBody s_law) (defScope s_law) .none kVL docL pmL anL cdL ctL, fun s v => .of_eq rfl, fun base _ _ => ?_⟩
  exact law_ok N EE T (PySem.W.mg_none_of X G z12) (PySem.W.mg_none_of X G z13) TC SC IS ⟨tM, PySem.W.mg_of X G mM⟩ ⟨tI8, PySem.W.mg_of X G mI⟩ ⟨tR, PySem.W.mg_of X G mR⟩ ⟨tP, PySem.W.mg_of X G mP⟩ FG bG ⟨mk, iC, fC1, kC⟩ (PySem.W.mg_of X G aC) FC bC ⟨mkT, itI, gtI, kCT⟩ FtI btI ⟨itI, gtI, ktI⟩ FtP btP ⟨itP, gtP, ktP⟩ FtD btD ⟨itD, gtD, ktD⟩ FtO btO ⟨itO, gtO, ktO⟩ FtA btA ⟨itA, gtA, ktA⟩ FtW btW ⟨itW, gtW, ktW⟩ D_is_integer D_is_number D_is_below D_need D_is_shape D_has_forks_of D_need_shape D_need_queue D_shape_tree D_is_rank D_fit_path D_place_behind D_need_absent D_need_node D_is_within D_order_at D_need_standing D_order_of D_place_of D_standing_with D_law_tape D_law_draw D_law_same D_law_form D_law_tree D_law_take D_law_row D_law_held D_law_push D_law_rank D_law_ask D_law_looks D_law_departed D_law_last D_law_refused FL
end K26
set_option Elab.async false
set_option linter.all false
set_option maxRecDepth 100000
open PySem PySem.W PyProof.Rows
set_option maxRecDepth 100000 in
set_option maxHeartbeats 0 in
theorem PySem.Challenge.cw_nextbough_k26_whole_order_is_departures_holds : PySem.Challenge.rw_nextbough_k26_whole_order_is_departures.Holds := by
  w_on; o_law; k_head; (case hw => w_witness2)
  k_fill
  refine L2.walk_of (n := 63) (k := 29) (x := "script") (CX := fun _ => L2.CX0) (sp := fun w => K26.spLaw _) rfl (by decide) rfl ⟨rfl, by decide, by decide⟩ (fun w h Y => PySem.W.kIn_of Y) ?F (fun _ _ a ns hl _ hS => ⟨a, ns, rfl, hS, hl, fun _ => rfl⟩) fun _ _ _ _ _ z => z
  case F =>
    intro w mg fa h KX G hmg
    refine' K26.all_mk KX G hmg ?aU ?xL ?xm ?saU ?exU ?tyU ?kU ?xga ?xgg ?xhd ?nw ?na ?iI ?tI ?tc ?ts ?lI ?cI ?kI ?aC ?mM ?mI ?mR ?mP ?aB ?aS ?aP ?bB ?iB ?tB ?sB ?iS ?tS ?sS ?iP ?tP2 ?sP ?ha ?hn ?ht ?hm ?pg ?hd ?po ?sa ?mk ?kC ?iC ?fC1 ?lC ?cC ?kC1 ?iG ?fG1 ?lG ?cG ?kG ?aL ?lL ?cL ?kL ?aT ?pgT ?hdT ?poT ?saT ?mkT ?kCT ?isT ?tyT ?s1T ?s2T ?s3T ?s4T ?s5T ?s6T ?haT ?hmT ?nTt ?nTl ?nTs ?itI ?gtI ?ltI ?ctI ?ktI ?itP ?gtP ?ltP ?ctP ?ktP ?itD ?gtD ?ltD ?ctD ?ktD ?itO ?gtO ?ltO ?ctO ?ktO ?itA ?gtA ?ltA ?ctA ?ktA ?itW ?gtW ?ltW ?ctW ?ktW ?n0 ?n1 ?n2 ?n3 ?n4 ?n5 ?n6 ?n7 ?n8 ?n9 ?n10 ?z0 ?z1 ?z2 ?z3 ?z4 ?z5 ?z6 ?z7 ?z8 ?z9 ?z10 ?z11 ?z12 ?z13 ?Dis_integer ?Dis_number ?Dis_below ?Dneed ?Dis_shape ?Dhas_forks_of ?Dneed_shape ?Dneed_queue ?Dshape_tree ?Dis_rank ?Dfit_path ?Dplace_behind ?Dneed_absent ?Dneed_node ?Dis_within ?Dorder_at ?Dneed_standing ?Dorder_of ?Dplace_of ?Dstanding_with ?Dlaw_tape ?Dlaw_draw ?Dlaw_same ?Dlaw_form ?Dlaw_tree ?Dlaw_take ?Dlaw_row ?Dlaw_held ?Dlaw_push ?Dlaw_rank ?Dlaw_ask ?Dlaw_looks ?Dlaw_departed ?Dlaw_last ?Dlaw_refused
    (case aU => k_is)
    (case xL => k_is)
    (case xm => rfl)
    (case saU => k_is)
    (case exU => k_is)
    (case tyU => k_is)
    (case kU => k_is)
    (case xga => k_is)
    (case xgg => k_is)
    (case xhd => k_is)
    (case nw => k_is)
    (case na => k_is)
    (case iI => k_is)
    (case tI => k_is)
    (case tc => k_is)
    (case ts => k_is)
    (case lI => k_is)
    (case cI => k_is)
    (case kI => k_is)
    (case aC => k_is)
    (case mM => k_is)
    (case mI => k_is)
    (case mR => k_is)
    (case mP => k_is)
    (case aB => k_is)
    (case aS => k_is)
    (case aP => k_is)
    (case bB => k_is)
    (case iB => k_is)
    (case tB => k_is)
    (case sB => k_is)
    (case iS => k_is)
    (case tS => k_is)
    (case sS => k_is)
    (case iP => k_is)
    (case tP2 => k_is)
    (case sP => k_is)
    (case ha => k_is)
    (case hn => k_is)
    (case ht => k_is)
    (case hm => k_is)
    (case pg => k_is)
    (case hd => k_is)
    (case po => k_is)
    (case sa => k_is)
    (case mk => k_is)
    (case kC => k_is)
    (case iC => k_is)
    (case fC1 => k_is)
    (case lC => k_is)
    (case cC => k_is)
    (case kC1 => k_is)
    (case iG => k_is)
    (case fG1 => k_is)
    (case lG => k_is)
    (case cG => k_is)
    (case kG => k_is)
    (case aL => k_is)
    (case lL => k_is)
    (case cL => k_is)
    (case kL => k_is)
    (case aT => k_is)
    (case pgT => k_is)
    (case hdT => k_is)
    (case poT => k_is)
    (case saT => k_is)
    (case mkT => k_is)
    (case kCT => k_is)
    (case isT => k_is)
    (case tyT => k_is)
    (case s1T => k_is)
    (case s2T => k_is)
    (case s3T => k_is)
    (case s4T => k_is)
    (case s5T => k_is)
    (case s6T => k_is)
    (case haT => k_is)
    (case hmT => k_is)
    (case nTt => k_is)
    (case nTl => k_is)
    (case nTs => k_is)
    (case itI => k_is)
    (case gtI => k_is)
    (case ltI => k_is)
    (case ctI => k_is)
    (case ktI => k_is)
    (case itP => k_is)
    (case gtP => k_is)
    (case ltP => k_is)
    (case ctP => k_is)
    (case ktP => k_is)
    (case itD => k_is)
    (case gtD => k_is)
    (case ltD => k_is)
    (case ctD => k_is)
    (case ktD => k_is)
    (case itO => k_is)
    (case gtO => k_is)
    (case ltO => k_is)
    (case ctO => k_is)
    (case ktO => k_is)
    (case itA => k_is)
    (case gtA => k_is)
    (case ltA => k_is)
    (case ctA => k_is)
    (case ktA => k_is)
    (case itW => k_is)
    (case gtW => k_is)
    (case ltW => k_is)
    (case ctW => k_is)
    (case ktW => k_is)
    (case n0 => k_is)
    (case n1 => k_is)
    (case n2 => k_is)
    (case n3 => k_is)
    (case n4 => k_is)
    (case n5 => k_is)
    (case n6 => k_is)
    (case n7 => k_is)
    (case n8 => k_is)
    (case n9 => k_is)
    (case n10 => k_is)
    (case z0 => k_is)
    (case z1 => k_is)
    (case z2 => k_is)
    (case z3 => k_is)
    (case z4 => k_is)
    (case z5 => k_is)
    (case z6 => k_is)
    (case z7 => k_is)
    (case z8 => k_is)
    (case z9 => k_is)
    (case z10 => k_is)
    (case z11 => k_is)
    (case z12 => k_is)
    (case z13 => k_is)
    (case Dis_integer => refine' K26.da_is_integer KX G ?a ?l ?c ?k; (case a => k_is); (case l => k_is); (case c => k_is); (case k => k_is))
    (case Dis_number => refine' K26.da_is_number KX G ?a ?l ?c ?k; (case a => k_is); (case l => k_is); (case c => k_is); (case k => k_is))
    (case Dis_below => refine' K26.da_is_below KX G ?a ?l ?c ?k; (case a => k_is); (case l => k_is); (case c => k_is); (case k => k_is))
    (case Dneed => refine' K26.da_need KX G ?a ?l ?c ?k; (case a => k_is); (case l => k_is); (case c => k_is); (case k => k_is))
    (case Dis_shape => refine' K26.da_is_shape KX G ?a ?l ?c ?k; (case a => k_is); (case l => k_is); (case c => k_is); (case k => k_is))
    (case Dhas_forks_of => refine' K26.da_has_forks_of KX G ?a ?l ?c ?k; (case a => k_is); (case l => k_is); (case c => k_is); (case k => k_is))
    (case Dneed_shape => refine' K26.da_need_shape KX G ?a ?l ?c ?k; (case a => k_is); (case l => k_is); (case c => k_is); (case k => k_is))
    (case Dneed_queue => refine' K26.da_need_queue KX G ?a ?l ?c ?k; (case a => k_is); (case l => k_is); (case c => k_is); (case k => k_is))
    (case Dshape_tree => refine' K26.da_shape_tree KX G ?a ?l ?c ?k; (case a => k_is); (case l => k_is); (case c => k_is); (case k => k_is))
    (case Dis_rank => refine' K26.da_is_rank KX G ?a ?l ?c ?k; (case a => k_is); (case l => k_is); (case c => k_is); (case k => k_is))
    (case Dfit_path => refine' K26.da_fit_path KX G ?a ?l ?c ?k; (case a => k_is); (case l => k_is); (case c => k_is); (case k => k_is))
    (case Dplace_behind => refine' K26.da_place_behind KX G ?a ?l ?c ?k; (case a => k_is); (case l => k_is); (case c => k_is); (case k => k_is))
    (case Dneed_absent => refine' K26.da_need_absent KX G ?a ?l ?c ?k; (case a => k_is); (case l => k_is); (case c => k_is); (case k => k_is))
    (case Dneed_node => refine' K26.da_need_node KX G ?a ?l ?c ?k; (case a => k_is); (case l => k_is); (case c => k_is); (case k => k_is))
    (case Dis_within => refine' K26.da_is_within KX G ?a ?l ?c ?k; (case a => k_is); (case l => k_is); (case c => k_is); (case k => k_is))
    (case Dorder_at => refine' K26.da_order_at KX G ?a ?l ?c ?k; (case a => k_is); (case l => k_is); (case c => k_is); (case k => k_is))
    (case Dneed_standing => refine' K26.da_need_standing KX G ?a ?l ?c ?k; (case a => k_is); (case l => k_is); (case c => k_is); (case k => k_is))
    (case Dorder_of => refine' K26.da_order_of KX G ?a ?l ?c ?k; (case a => k_is); (case l => k_is); (case c => k_is); (case k => k_is))
    (case Dplace_of => refine' K26.da_place_of KX G ?a ?l ?c ?k; (case a => k_is); (case l => k_is); (case c => k_is); (case k => k_is))
    (case Dstanding_with => refine' K26.da_standing_with KX G ?a ?l ?c ?k; (case a => k_is); (case l => k_is); (case c => k_is); (case k => k_is))
    (case Dlaw_tape => refine' K26.da_law_tape KX G ?a ?l ?c ?k; (case a => k_is); (case l => k_is); (case c => k_is); (case k => k_is))
    (case Dlaw_draw => refine' K26.da_law_draw KX G ?a ?l ?c ?k; (case a => k_is); (case l => k_is); (case c => k_is); (case k => k_is))
    (case Dlaw_same => refine' K26.da_law_same KX G ?a ?l ?c ?k; (case a => k_is); (case l => k_is); (case c => k_is); (case k => k_is))
    (case Dlaw_form => refine' K26.da_law_form KX G ?a ?l ?c ?k; (case a => k_is); (case l => k_is); (case c => k_is); (case k => k_is))
    (case Dlaw_tree => refine' K26.da_law_tree KX G ?a ?l ?c ?k; (case a => k_is); (case l => k_is); (case c => k_is); (case k => k_is))
    (case Dlaw_take => refine' K26.da_law_take KX G ?a ?l ?c ?k; (case a => k_is); (case l => k_is); (case c => k_is); (case k => k_is))
    (case Dlaw_row => refine' K26.da_law_row KX G ?a ?l ?c ?k; (case a => k_is); (case l => k_is); (case c => k_is); (case k => k_is))
    (case Dlaw_held => refine' K26.da_law_held KX G ?a ?l ?c ?k; (case a => k_is); (case l => k_is); (case c => k_is); (case k => k_is))
    (case Dlaw_push => refine' K26.da_law_push KX G ?a ?l ?c ?k; (case a => k_is); (case l => k_is); (case c => k_is); (case k => k_is))
    (case Dlaw_rank => refine' K26.da_law_rank KX G ?a ?l ?c ?k; (case a => k_is); (case l => k_is); (case c => k_is); (case k => k_is))
    (case Dlaw_ask => refine' K26.da_law_ask KX G ?a ?l ?c ?k; (case a => k_is); (case l => k_is); (case c => k_is); (case k => k_is))
    (case Dlaw_looks => refine' K26.da_law_looks KX G ?a ?l ?c ?k; (case a => k_is); (case l => k_is); (case c => k_is); (case k => k_is))
    (case Dlaw_departed => refine' K26.da_law_departed KX G ?a ?l ?c ?k; (case a => k_is); (case l => k_is); (case c => k_is); (case k => k_is))
    (case Dlaw_last => refine' K26.da_law_last KX G ?a ?l ?c ?k; (case a => k_is); (case l => k_is); (case c => k_is); (case k => k_is))
    (case Dlaw_refused => refine' K26.da_law_refused KX G ?a ?l ?c ?k; (case a => k_is); (case l => k_is); (case c => k_is); (case k => k_is))
