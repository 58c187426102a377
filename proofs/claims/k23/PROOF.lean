import PyProof.Rows.All
import Wide.All
import OpenK.AllK
import Wide.FinOn
import PySem.Challenge.RW_nextbough_k23_put_behind_ties
import HandS.ForMost
import HandS.ForExc
import HandS.Deep
import HandS.TupAny
import HandS.TupMul
import HandS.ExcInit
import HandS.ExcField
import HandS.IsInst
import HandS.Conv
import HandS.Evl
import KE.GoesMore
import HandS.Walk
import HandS.TupLe
import HandS.NamedTupSort
import HandS.ExcIs
import KE.KExcIs
import HandS.Wide
import HandS.DictTup
import KE.KEqDeep
set_option Elab.async false
set_option linter.all false
set_option maxRecDepth 100000
set_option maxHeartbeats 2000000
namespace K23
open PySem PySem.Spec PyProof.Rows L2
def topS (i : Nat) : Stmt := PySem.Challenge.pw_nextbough_k23_put_behind_ties.main.body.getD i (.Pass ⟨0, 0, 0, 0⟩)
abbrev s_wall : Stmt := topS 0
abbrev N_wall : List Str := ["k"]
theorem sc_wall : FnScope N_wall ["k"] (defScope s_wall) := ⟨rfl, rfl, rfl, by decide +kernel, rfl, by decide +kernel, by decide +kernel⟩
abbrev s_InvalidPaper_init : Stmt := inClass (topS 5) 0
abbrev N_InvalidPaper_init : List Str := ["self", "word", "at"]
theorem sc_InvalidPaper_init : FnScope N_InvalidPaper_init ["self", "word", "at"] (defScope s_InvalidPaper_init) := ⟨rfl, rfl, rfl, by decide +kernel, rfl, by decide +kernel, by decide +kernel⟩
abbrev s_NotUsable_init : Stmt := inClass (topS 6) 0
abbrev N_NotUsable_init : List Str := ["self", "word", "at"]
theorem sc_NotUsable_init : FnScope N_NotUsable_init ["self", "word", "at"] (defScope s_NotUsable_init) := ⟨rfl, rfl, rfl, by decide +kernel, rfl, by decide +kernel, by decide +kernel⟩
abbrev s_is_integer : Stmt := topS 9
abbrev N_is_integer : List Str := ["thing"]
theorem sc_is_integer : FnScope N_is_integer ["thing"] (defScope s_is_integer) := ⟨rfl, rfl, rfl, by decide +kernel, rfl, by decide +kernel, by decide +kernel⟩
abbrev s_is_number : Stmt := topS 10
abbrev N_is_number : List Str := ["thing"]
theorem sc_is_number : FnScope N_is_number ["thing"] (defScope s_is_number) := ⟨rfl, rfl, rfl, by decide +kernel, rfl, by decide +kernel, by decide +kernel⟩
abbrev s_is_below : Stmt := topS 11
abbrev N_is_below : List Str := ["thing", "bound"]
theorem sc_is_below : FnScope N_is_below ["thing", "bound"] (defScope s_is_below) := ⟨rfl, rfl, rfl, by decide +kernel, rfl, by decide +kernel, by decide +kernel⟩
abbrev s_need : Stmt := topS 12
abbrev N_need : List Str := ["fits", "word"]
theorem sc_need : FnScope N_need ["fits", "word"] (defScope s_need) := ⟨rfl, rfl, rfl, by decide +kernel, rfl, by decide +kernel, by decide +kernel⟩
abbrev s_copied : Stmt := topS 13
abbrev N_copied : List Str := ["thing", "part"]
theorem sc_copied : FnScope N_copied ["thing"] (defScope s_copied) := ⟨rfl, rfl, rfl, by decide +kernel, rfl, by decide +kernel, by decide +kernel⟩
abbrev s_is_shape : Stmt := topS 16
abbrev N_is_shape : List Str := ["thing"]
theorem sc_is_shape : FnScope N_is_shape ["thing"] (defScope s_is_shape) := ⟨rfl, rfl, rfl, by decide +kernel, rfl, by decide +kernel, by decide +kernel⟩
abbrev s_has_forks_of : Stmt := topS 17
abbrev N_has_forks_of : List Str := ["thing", "least", "left", "part"]
theorem sc_has_forks_of : FnScope N_has_forks_of ["thing", "least"] (defScope s_has_forks_of) := ⟨rfl, rfl, rfl, by decide +kernel, rfl, by decide +kernel, by decide +kernel⟩
abbrev s_need_shape : Stmt := topS 18
abbrev N_need_shape : List Str := ["form", "word"]
theorem sc_need_shape : FnScope N_need_shape ["form", "word"] (defScope s_need_shape) := ⟨rfl, rfl, rfl, by decide +kernel, rfl, by decide +kernel, by decide +kernel⟩
abbrev s_ShapeTree_init : Stmt := inClass (topS 20) 0
abbrev N_ShapeTree_init : List Str := ["self", "form"]
theorem sc_ShapeTree_init : FnScope N_ShapeTree_init ["self", "form"] (defScope s_ShapeTree_init) := ⟨rfl, rfl, rfl, by decide +kernel, rfl, by decide +kernel, by decide +kernel⟩
abbrev s_ShapeTree_grow : Stmt := inClass (topS 20) 1
abbrev N_ShapeTree_grow : List Str := ["self", "bough", "above", "side", "node", "path", "kids", "place", "kid"]
theorem sc_ShapeTree_grow : FnScope N_ShapeTree_grow ["self", "bough", "above", "side"] (defScope s_ShapeTree_grow) := ⟨rfl, rfl, rfl, by decide +kernel, rfl, by decide +kernel, by decide +kernel⟩
abbrev s_ShapeTree_form_of : Stmt := inClass (topS 20) 2
abbrev N_ShapeTree_form_of : List Str := ["self"]
theorem sc_ShapeTree_form_of : FnScope N_ShapeTree_form_of ["self"] (defScope s_ShapeTree_form_of) := ⟨rfl, rfl, rfl, by decide +kernel, rfl, by decide +kernel, by decide +kernel⟩
abbrev s_ShapeTree_bough_of : Stmt := inClass (topS 20) 3
abbrev N_ShapeTree_bough_of : List Str := ["self", "node"]
theorem sc_ShapeTree_bough_of : FnScope N_ShapeTree_bough_of ["self", "node"] (defScope s_ShapeTree_bough_of) := ⟨rfl, rfl, rfl, by decide +kernel, rfl, by decide +kernel, by decide +kernel⟩
abbrev s_ShapeTree_parent_of : Stmt := inClass (topS 20) 4
abbrev N_ShapeTree_parent_of : List Str := ["self", "node"]
theorem sc_ShapeTree_parent_of : FnScope N_ShapeTree_parent_of ["self", "node"] (defScope s_ShapeTree_parent_of) := ⟨rfl, rfl, rfl, by decide +kernel, rfl, by decide +kernel, by decide +kernel⟩
abbrev s_ShapeTree_kids_of : Stmt := inClass (topS 20) 5
abbrev N_ShapeTree_kids_of : List Str := ["self", "node"]
theorem sc_ShapeTree_kids_of : FnScope N_ShapeTree_kids_of ["self", "node"] (defScope s_ShapeTree_kids_of) := ⟨rfl, rfl, rfl, by decide +kernel, rfl, by decide +kernel, by decide +kernel⟩
abbrev s_ShapeTree_depth_of : Stmt := inClass (topS 20) 6
abbrev N_ShapeTree_depth_of : List Str := ["self", "node"]
theorem sc_ShapeTree_depth_of : FnScope N_ShapeTree_depth_of ["self", "node"] (defScope s_ShapeTree_depth_of) := ⟨rfl, rfl, rfl, by decide +kernel, rfl, by decide +kernel, by decide +kernel⟩
abbrev s_ShapeTree_low_of : Stmt := inClass (topS 20) 7
abbrev N_ShapeTree_low_of : List Str := ["self", "node"]
theorem sc_ShapeTree_low_of : FnScope N_ShapeTree_low_of ["self", "node"] (defScope s_ShapeTree_low_of) := ⟨rfl, rfl, rfl, by decide +kernel, rfl, by decide +kernel, by decide +kernel⟩
abbrev s_ShapeTree_high_of : Stmt := inClass (topS 20) 8
abbrev N_ShapeTree_high_of : List Str := ["self", "node"]
theorem sc_ShapeTree_high_of : FnScope N_ShapeTree_high_of ["self", "node"] (defScope s_ShapeTree_high_of) := ⟨rfl, rfl, rfl, by decide +kernel, rfl, by decide +kernel, by decide +kernel⟩
abbrev s_ShapeTree_node_of : Stmt := inClass (topS 20) 9
abbrev N_ShapeTree_node_of : List Str := ["self", "queue"]
theorem sc_ShapeTree_node_of : FnScope N_ShapeTree_node_of ["self", "queue"] (defScope s_ShapeTree_node_of) := ⟨rfl, rfl, rfl, by decide +kernel, rfl, by decide +kernel, by decide +kernel⟩
abbrev s_ShapeTree_queue_at : Stmt := inClass (topS 20) 10
abbrev N_ShapeTree_queue_at : List Str := ["self", "node"]
theorem sc_ShapeTree_queue_at : FnScope N_ShapeTree_queue_at ["self", "node"] (defScope s_ShapeTree_queue_at) := ⟨rfl, rfl, rfl, by decide +kernel, rfl, by decide +kernel, by decide +kernel⟩
abbrev s_ShapeTree_path_of : Stmt := inClass (topS 20) 11
abbrev N_ShapeTree_path_of : List Str := ["self", "queue"]
theorem sc_ShapeTree_path_of : FnScope N_ShapeTree_path_of ["self", "queue"] (defScope s_ShapeTree_path_of) := ⟨rfl, rfl, rfl, by decide +kernel, rfl, by decide +kernel, by decide +kernel⟩
abbrev s_ShapeTree_meet_of : Stmt := inClass (topS 20) 12
abbrev N_ShapeTree_meet_of : List Str := ["self", "one", "other"]
theorem sc_ShapeTree_meet_of : FnScope N_ShapeTree_meet_of ["self", "one", "other"] (defScope s_ShapeTree_meet_of) := ⟨rfl, rfl, rfl, by decide +kernel, rfl, by decide +kernel, by decide +kernel⟩
abbrev s_ShapeTree_lies_in : Stmt := inClass (topS 20) 13
abbrev N_ShapeTree_lies_in : List Str := ["self", "node", "top"]
theorem sc_ShapeTree_lies_in : FnScope N_ShapeTree_lies_in ["self", "node", "top"] (defScope s_ShapeTree_lies_in) := ⟨rfl, rfl, rfl, by decide +kernel, rfl, by decide +kernel, by decide +kernel⟩
abbrev s_ShapeTree_toward : Stmt := inClass (topS 20) 14
abbrev N_ShapeTree_toward : List Str := ["self", "node", "down"]
theorem sc_ShapeTree_toward : FnScope N_ShapeTree_toward ["self", "node", "down"] (defScope s_ShapeTree_toward) := ⟨rfl, rfl, rfl, by decide +kernel, rfl, by decide +kernel, by decide +kernel⟩
abbrev s_need_queue : Stmt := topS 21
abbrev N_need_queue : List Str := ["tree", "queue", "word"]
theorem sc_need_queue : FnScope N_need_queue ["tree", "queue", "word"] (defScope s_need_queue) := ⟨rfl, rfl, rfl, by decide +kernel, rfl, by decide +kernel, by decide +kernel⟩
abbrev s_shape_tree : Stmt := topS 22
abbrev N_shape_tree : List Str := ["form", "word"]
theorem sc_shape_tree : FnScope N_shape_tree ["form", "word"] (defScope s_shape_tree) := ⟨rfl, rfl, rfl, by decide +kernel, rfl, by decide +kernel, by decide +kernel⟩
abbrev s_is_rank : Stmt := topS 26
abbrev N_is_rank : List Str := ["thing", "part"]
theorem sc_is_rank : FnScope N_is_rank ["thing"] (defScope s_is_rank) := ⟨rfl, rfl, rfl, by decide +kernel, rfl, by decide +kernel, by decide +kernel⟩
abbrev s_is_line : Stmt := topS 27
abbrev N_is_line : List Str := ["thing", "last", "entry", "rank"]
theorem sc_is_line : FnScope N_is_line ["thing"] (defScope s_is_line) := ⟨rfl, rfl, rfl, by decide +kernel, rfl, by decide +kernel, by decide +kernel⟩
abbrev s_are_ranks : Stmt := topS 28
abbrev N_are_ranks : List Str := ["form", "queue", "thing", "tree"]
theorem sc_are_ranks : FnScope N_are_ranks ["form", "queue", "thing"] (defScope s_are_ranks) := ⟨rfl, rfl, rfl, by decide +kernel, rfl, by decide +kernel, by decide +kernel⟩
abbrev s_fit_path : Stmt := topS 29
abbrev N_fit_path : List Str := ["tree", "queue", "thing", "rank"]
theorem sc_fit_path : FnScope N_fit_path ["tree", "queue", "thing"] (defScope s_fit_path) := ⟨rfl, rfl, rfl, by decide +kernel, rfl, by decide +kernel, by decide +kernel⟩
abbrev s_is_way : Stmt := topS 30
abbrev N_is_way : List Str := ["tree", "queue", "ranks"]
theorem sc_is_way : FnScope N_is_way ["tree", "queue", "ranks"] (defScope s_is_way) := ⟨rfl, rfl, rfl, by decide +kernel, rfl, by decide +kernel, by decide +kernel⟩
abbrev s_events_fit : Stmt := topS 31
abbrev N_events_fit : List Str := ["form", "thing"]
theorem sc_events_fit : FnScope N_events_fit ["form", "thing"] (defScope s_events_fit) := ⟨rfl, rfl, rfl, by decide +kernel, rfl, by decide +kernel, by decide +kernel⟩
abbrev s_are_events : Stmt := topS 32
abbrev N_are_events : List Str := ["tree", "thing", "pushed", "event"]
theorem sc_are_events : FnScope N_are_events ["tree", "thing"] (defScope s_are_events) := ⟨rfl, rfl, rfl, by decide +kernel, rfl, by decide +kernel, by decide +kernel⟩
abbrev s_is_event : Stmt := topS 33
abbrev N_is_event : List Str := ["tree", "thing"]
theorem sc_is_event : FnScope N_is_event ["tree", "thing"] (defScope s_is_event) := ⟨rfl, rfl, rfl, by decide +kernel, rfl, by decide +kernel, by decide +kernel⟩
abbrev s_put_place : Stmt := topS 35
abbrev N_put_place : List Str := ["line", "rank"]
theorem sc_put_place : FnScope N_put_place ["line", "rank"] (defScope s_put_place) := ⟨rfl, rfl, rfl, by decide +kernel, rfl, by decide +kernel, by decide +kernel⟩
abbrev s_put_entry : Stmt := topS 36
abbrev N_put_entry : List Str := ["line", "rank", "item", "place"]
theorem sc_put_entry : FnScope N_put_entry ["line", "rank", "item"] (defScope s_put_entry) := ⟨rfl, rfl, rfl, by decide +kernel, rfl, by decide +kernel, by decide +kernel⟩
abbrev s_place_behind : Stmt := topS 37
abbrev N_place_behind : List Str := ["line", "rank", "low", "high", "middle"]
theorem sc_place_behind : FnScope N_place_behind ["line", "rank"] (defScope s_place_behind) := ⟨rfl, rfl, rfl, by decide +kernel, rfl, by decide +kernel, by decide +kernel⟩
abbrev s_law_tape : Stmt := topS 39
abbrev N_law_tape : List Str := ["script", "cell"]
theorem sc_law_tape : FnScope N_law_tape ["script"] (defScope s_law_tape) := ⟨rfl, rfl, rfl, by decide +kernel, rfl, by decide +kernel, by decide +kernel⟩
abbrev s_law_draw : Stmt := topS 40
abbrev N_law_draw : List Str := ["tape", "many", "cell", "pick"]
theorem sc_law_draw : FnScope N_law_draw ["tape", "many"] (defScope s_law_draw) := ⟨rfl, rfl, rfl, by decide +kernel, rfl, by decide +kernel, by decide +kernel⟩
abbrev s_law_same : Stmt := topS 41
abbrev N_law_same : List Str := ["one", "other", "k"]
theorem sc_law_same : FnScope N_law_same ["one", "other"] (defScope s_law_same) := ⟨rfl, rfl, rfl, by decide +kernel, rfl, by decide +kernel, by decide +kernel⟩
abbrev s_law_is : Stmt := topS 42
abbrev N_law_is : List Str := ["told", "due"]
theorem sc_law_is : FnScope N_law_is ["told", "due"] (defScope s_law_is) := ⟨rfl, rfl, rfl, by decide +kernel, rfl, by decide +kernel, by decide +kernel⟩
abbrev s_law_ask : Stmt := topS 43
abbrev N_law_ask : List Str := ["word", "one", "two", "three", "e"]
theorem sc_law_ask : FnScope N_law_ask ["word", "one", "two", "three"] (defScope s_law_ask) := ⟨rfl, rfl, rfl, by decide +kernel, rfl, by decide +kernel, by decide +kernel⟩
abbrev s_law_rank : Stmt := topS 44
abbrev N_law_rank : List Str := ["tape", "manner", "k", "edge", "menu"]
theorem sc_law_rank : FnScope N_law_rank ["tape", "manner"] (defScope s_law_rank) := ⟨rfl, rfl, rfl, by decide +kernel, rfl, by decide +kernel, by decide +kernel⟩
abbrev s_law_item : Stmt := topS 45
abbrev N_law_item : List Str := ["tape", "manner", "number", "menu"]
theorem sc_law_item : FnScope N_law_item ["tape", "manner", "number"] (defScope s_law_item) := ⟨rfl, rfl, rfl, by decide +kernel, rfl, by decide +kernel, by decide +kernel⟩
abbrev s_law_greater : Stmt := topS 46
abbrev N_law_greater : List Str := ["one", "other", "k"]
theorem sc_law_greater : FnScope N_law_greater ["one", "other"] (defScope s_law_greater) := ⟨rfl, rfl, rfl, by decide +kernel, rfl, by decide +kernel, by decide +kernel⟩
abbrev s_law_sorted : Stmt := topS 47
abbrev N_law_sorted : List Str := ["ranks", "things", "k", "row", "rank"]
theorem sc_law_sorted : FnScope N_law_sorted ["ranks", "things"] (defScope s_law_sorted) := ⟨rfl, rfl, rfl, by decide +kernel, rfl, by decide +kernel, by decide +kernel⟩
abbrev s_law_puts : Stmt := topS 48
abbrev N_law_puts : List Str := ["tape", "manner", "plain", "many", "line", "ranks", "things", "k", "rank", "thing", "one", "due", "named", "told"]
theorem sc_law_puts : FnScope N_law_puts ["tape"] (defScope s_law_puts) := ⟨rfl, rfl, rfl, by decide +kernel, rfl, by decide +kernel, by decide +kernel⟩
abbrev s_law_long : Stmt := topS 49
abbrev N_law_long : List Str := ["tape", "many", "k", "line", "rank", "pair", "due"]
theorem sc_law_long : FnScope N_law_long ["tape"] (defScope s_law_long) := ⟨rfl, rfl, rfl, by decide +kernel, rfl, by decide +kernel, by decide +kernel⟩
abbrev s_law_bad_rank : Stmt := topS 50
abbrev N_law_bad_rank : List Str := ["tape", "edge", "menu"]
theorem sc_law_bad_rank : FnScope N_law_bad_rank ["tape"] (defScope s_law_bad_rank) := ⟨rfl, rfl, rfl, by decide +kernel, rfl, by decide +kernel, by decide +kernel⟩
abbrev s_law_bad_line : Stmt := topS 51
abbrev N_law_bad_line : List Str := ["tape", "line", "kind", "at", "head", "tail", "rank"]
theorem sc_law_bad_line : FnScope N_law_bad_line ["tape", "line"] (defScope s_law_bad_line) := ⟨rfl, rfl, rfl, by decide +kernel, rfl, by decide +kernel, by decide +kernel⟩
abbrev s_law_kinds : Stmt := topS 52
abbrev N_law_kinds : List Str := ["tape", "line", "edge", "good", "full", "one", "at", "turned", "k", "bad", "spoilt", "word", "pair", "due"]
theorem sc_law_kinds : FnScope N_law_kinds ["tape", "line"] (defScope s_law_kinds) := ⟨rfl, rfl, rfl, by decide +kernel, rfl, by decide +kernel, by decide +kernel⟩
abbrev s_law_form : Stmt := topS 53
abbrev N_law_form : List Str := ["tape", "k", "parts", "single", "turn", "at", "wide"]
theorem sc_law_form : FnScope N_law_form ["tape"] (defScope s_law_form) := ⟨rfl, rfl, rfl, by decide +kernel, rfl, by decide +kernel, by decide +kernel⟩
abbrev s_law_deeps : Stmt := topS 54
abbrev N_law_deeps : List Str := ["form", "found", "todo", "turn", "part", "deep", "k"]
theorem sc_law_deeps : FnScope N_law_deeps ["form"] (defScope s_law_deeps) := ⟨rfl, rfl, rfl, by decide +kernel, rfl, by decide +kernel, by decide +kernel⟩
abbrev s_law_bad_form : Stmt := topS 55
abbrev N_law_bad_form : List Str := ["tape", "menu"]
theorem sc_law_bad_form : FnScope N_law_bad_form ["tape"] (defScope s_law_bad_form) := ⟨rfl, rfl, rfl, by decide +kernel, rfl, by decide +kernel, by decide +kernel⟩
abbrev s_law_ways : Stmt := topS 56
abbrev N_law_ways : List Str := ["tape", "form", "deeps", "queue", "manner", "k", "good", "word", "at", "head", "tail", "spoilt", "bad", "wrong"]
theorem sc_law_ways : FnScope N_law_ways ["tape"] (defScope s_law_ways) := ⟨rfl, rfl, rfl, by decide +kernel, rfl, by decide +kernel, by decide +kernel⟩
abbrev s_law_event : Stmt := topS 57
abbrev N_law_event : List Str := ["tape", "deeps", "number", "queue", "manner", "k"]
theorem sc_law_event : FnScope N_law_event ["tape", "deeps", "number"] (defScope s_law_event) := ⟨rfl, rfl, rfl, by decide +kernel, rfl, by decide +kernel, by decide +kernel⟩
abbrev s_law_bad_event : Stmt := topS 58
abbrev N_law_bad_event : List Str := ["tape", "deeps", "event", "menu", "word", "number", "queue", "ranks", "at", "head", "tail"]
theorem sc_law_bad_event : FnScope N_law_bad_event ["tape", "deeps", "event"] (defScope s_law_bad_event) := ⟨rfl, rfl, rfl, by decide +kernel, rfl, by decide +kernel, by decide +kernel⟩
abbrev s_law_events : Stmt := topS 59
abbrev N_law_events : List Str := ["tape", "form", "deeps", "start", "k", "events", "good", "thing", "word", "way", "at", "turn", "bad"]
theorem sc_law_events : FnScope N_law_events ["tape"] (defScope s_law_events) := ⟨rfl, rfl, rfl, by decide +kernel, rfl, by decide +kernel, by decide +kernel⟩
abbrev s_law : Stmt := topS 60
abbrev N_law : List Str := ["script", "tape", "scene", "line"]
theorem sc_law : FnScope N_law ["script"] (defScope s_law) := ⟨rfl, rfl, rfl, by decide +kernel, rfl, by decide +kernel, by decide +kernel⟩
end K23
set_option Elab.async false
set_option linter.all false
set_option maxRecDepth 100000
set_option maxHeartbeats 2000000
namespace K23
open PySem PySem.Spec PyProof.Rows L2

/-! ### kinds of values -/
/-- the kinds that come: by the name of the type -/
def KindV (K : PySem.W.Frag) (H : Hp) (x : V) (t : String) : Prop := TyX K H x (.type t) ∧ (t = "int" ∨ t = "bool" ∨ t = "NoneType" ∨ t = "str" ∨ t = "tuple" ∨ t = "list")
/-- a value seen as an integer, or none -/
def NumV (K : PySem.W.Frag) (H : Hp) (x : V) : Option Int → Prop
  | some i => x = .int i
  | none => ∃ t, KindV K H x t ∧ t ≠ "int"
theorem kind_int {K : PySem.W.Frag} {H : Hp} (i : Int) : KindV K H (.int i) "int" := ⟨.base (.int i), .inl rfl⟩
theorem kind_bl {K : PySem.W.Frag} {H : Hp} (b : Bool) : KindV K H (.bl b) "bool" := ⟨.base (.bl b), .inr (.inl rfl)⟩
theorem kind_non {K : PySem.W.Frag} {H : Hp} : KindV K H .non "NoneType" := ⟨.base .non, .inr (.inr (.inl rfl))⟩
theorem kind_str {K : PySem.W.Frag} {H : Hp} (s : Str) : KindV K H (.str s) "str" := ⟨.base (.str s), .inr (.inr (.inr (.inl rfl)))⟩
theorem kind_tup {K : PySem.W.Frag} {H : Hp} {a : Addr} {xs : List V} (h : H a = some (.tup xs)) : KindV K H (.ref a) "tuple" := ⟨.base (.tup h), .inr (.inr (.inr (.inr (.inl rfl))))⟩
theorem kind_lst {K : PySem.W.Frag} {H : Hp} {a : Addr} {xs : List V} (h : H a = some (.lst xs)) : KindV K H (.ref a) "list" := ⟨.base (.lst h), .inr (.inr (.inr (.inr (.inr rfl))))⟩
theorem kit_int {t : String} (h : t = "int" ∨ t = "bool" ∨ t = "NoneType" ∨ t = "str" ∨ t = "tuple" ∨ t = "list") : kitB t "int" = some (t == "int" || t == "bool") := by
  rcases h with rfl | rfl | rfl | rfl | rfl | rfl <;> decide +kernel
theorem kit_bool {t : String} (h : t = "int" ∨ t = "bool" ∨ t = "NoneType" ∨ t = "str" ∨ t = "tuple" ∨ t = "list") : kitB t "bool" = some (t == "bool") := by
  rcases h with rfl | rfl | rfl | rfl | rfl | rfl <;> decide +kernel
theorem kit_tup {t : String} (h : t = "int" ∨ t = "bool" ∨ t = "NoneType" ∨ t = "str" ∨ t = "tuple" ∨ t = "list") : kitB t "tuple" = some (t == "tuple") := by
  rcases h with rfl | rfl | rfl | rfl | rfl | rfl <;> decide +kernel
theorem kit_str {t : String} (h : t = "int" ∨ t = "bool" ∨ t = "NoneType" ∨ t = "str" ∨ t = "tuple" ∨ t = "list") : kitB t "str" = some (t == "str") := by
  rcases h with rfl | rfl | rfl | rfl | rfl | rfl <;> decide +kernel
abbrev tIsi (K : PySem.W.Frag) (i : Nat) (c : String) : TE := tCB (rIsi K) (tCons (tVar i) (tCons (tC (.ty c)) tNil))
theorem isi_read {K : PySem.W.Frag} {σ : L2.St} {H : Hp} {i : Nat} {x : V} {c t : String} {b : Bool} {Q : VK} (hσ : σ[i]? = some (some x)) (ht : TyX K H x (.type t)) (hk : kitB t c = some b) (q : Q (.bl b) H) : tIsi K i c σ H Q :=
  ⟨x, hσ, x, .ty c, .type t, .type c, b, rfl, .ty c, ht, kit_ty hk, q⟩
/-! ### the top's facts -/
structure Txt (K : PySem.W.Frag) (mg : Str → Option Value) : Prop where
  isinstance : mg "isinstance" = none
  int : mg "int" = none
  bool : mg "bool" = none
  tuple : mg "tuple" = none
  str : mg "str" = none
  len : mg "len" = none
  range : mg "range" = none
  enumerate : mg "enumerate" = none
  sorted : mg "sorted" = none
  all : mg "all" = none
  min : mg "min" = none
  list : mg "list" = none
section
variable {P : Program} {w : World} {K : PySem.W.Frag} {mg : Str → Option Value} {base : Heap}
/-! ### is_integer, is_number, is_below -/
def spInteger (K : PySem.W.Frag) : Sp := fun vs H Q _ => ∃ x o, vs = [x] ∧ NumV K H x o ∧ Q (.bl o.isSome) H
theorem ok_is_integer {f : Addr} {fd : FuncData} (F : Fun K "is_integer" "is_integer" s_is_integer f fd) (T : Txt K mg) : FnOk P w K mg base CX0 1 f fd ["thing"] (spInteger K) := by
  refine F.ok sc_is_integer (fun vs H Q E h => ?_) (fun cdv A outer s H vs Q E hr h => ?_)
  · obtain ⟨x, o, rfl, _⟩ := h
    rfl
  obtain ⟨x, o, rfl, hx, q⟩ := h
  refine ⟨_, pss_one (ps_ret (pe_and (pe_callB call_isi (by rfl) T.isinstance boot_isinstance (pa_cons (pv 0) (pa_cons (pe_bltn (v := .ty "int") (by rfl) T.int boot_int rfl) pa_nil)))
    (pe_one (pe_not (pe_callB call_isi (by rfl) T.isinstance boot_isinstance (pa_cons (pv 0) (pa_cons (pe_bltn (v := .ty "bool") (by rfl) T.bool (by decide +kernel) rfl) pa_nil))))))), ?_⟩
  cases o with
  | some i =>
    obtain rfl : x = .int i := hx
    refine isi_read rfl (kind_int i).1 (kit_int (kind_int (K := K) (H := H) i).2) ⟨_, rfl, ?_⟩
    refine iteT ?_
    exact isi_read rfl (kind_int i).1 (kit_bool (kind_int (K := K) (H := H) i).2) ⟨_, rfl, q⟩
  | none =>
    obtain ⟨t, ht, hn⟩ := hx
    refine isi_read rfl ht.1 (kit_int ht.2) ⟨_, rfl, ?_⟩
    have e1 : (t == "int") = false := by simpa using hn
    rw [e1, Bool.false_or]
    cases e2 : (t == "bool") with
    | false => exact iteF q
    | true =>
      refine iteT ?_
      refine isi_read rfl ht.1 (kit_bool ht.2) ⟨_, rfl, ?_⟩
      rw [e2]
      exact q
end
end K23
set_option Elab.async false
set_option linter.all false
set_option maxRecDepth 100000
set_option maxHeartbeats 4000000
namespace L2
open PySem PySem.Spec PyProof.Rows
/-! ### a def by its name, with what it promises -/
structure DefAt (K : PySem.W.Frag) (mg : Str → Option Value) (x : Str) (st : Stmt) (ps : List Str) : Prop where
  ex : ∃ (f : Addr) (fd : FuncData), Fun K x x st f fd ∧ mg x = some (.ref f) ∧ Binds K fd ps []
/-- the function's own object -/
def LkF (K : PySem.W.Frag) (f : Addr) (fd : FuncData) : Prop := ∃ (oc : Value) (od : Option Addr) (osl : Array (Option Value)), K.lookup f = some ⟨oc, od, .func fd, osl⟩
theorem LkF.inj {K : PySem.W.Frag} {f : Addr} {fd fd' : FuncData} (a : LkF K f fd) (b : LkF K f fd') : fd = fd' := by
  obtain ⟨oc, od, osl, h⟩ := a
  obtain ⟨oc', od', osl', h'⟩ := b
  rw [h] at h'
  injection h' with h'
  injection h' with _ _ h' _
  injection h'
theorem fun_lk {K : PySem.W.Frag} {x q : Str} {st : Stmt} {f : Addr} {fd : FuncData} (F : Fun K x q st f fd) : LkF K f fd := by
  obtain ⟨oc, od, kV, doc, pm, an, cdv, ct, osl, rfl, lk, _⟩ := F.ex
  exact ⟨oc, od, osl, lk⟩
structure CalX (P : Program) (w : World) (K : PySem.W.Frag) (mg : Str → Option Value) (base : Heap) (CX : CXT) (k : Nat) (x : Str) (ps : List Str) (sp : Sp) : Prop where
  ex : ∃ (f : Addr) (fd : FuncData), FnOk P w K mg base CX k f fd ps sp ∧ mg x = some (.ref f) ∧ PySem.W.keepIn K (.ref f) = true ∧ Binds K fd ps [] ∧ LkF K f fd
section
variable {P : Program} {w : World} {K : PySem.W.Frag} {mg : Str → Option Value} {base : Heap} {x : Str} {st : Stmt} {N ps : List Str} {k j : Nat} {sp : Sp} {CX : CXT}
theorem CalX.mono (c : CalX P w K mg base CX k x ps sp) (h : k ≤ j) : CalX P w K mg base CX j x ps sp := by
  obtain ⟨f, fd, F, a, b, d⟩ := c.ex
  exact ⟨f, fd, F.mono h, a, b, d⟩
theorem DefAt.ok (D : DefAt K mg x st ps) (S : FnScope N ps (defScope st)) (len : ∀ vs H Q E, sp vs H Q E → vs.length = ps.length)
    (hbody : ∀ (f : Addr) (cdv : Value) (A : Around) (outer : List Env) (s : Shared) (H : Hp) (vs : List V) (Q : VK) (E : XK), Room k (A.deeper (envOfC x (defScope st) s.heap.objs.size f cdv)) → sp vs H Q E →
      ∃ t, PSs (cxOf CX0 P w K mg base N x (defScope st) f cdv A outer s H E).nox (defBody st) t ∧ t { nx := fun _ H' => Q .non H', rt := Q } (start N vs) H) : CalX P w K mg base CX0 (k + 1) x ps sp := by
  obtain ⟨f, fd, F, m, b⟩ := D.ex
  exact ⟨f, fd, F.ok S len (hbody f), m, F.kp, b, fun_lk F⟩
end
/-! a def that may raise -/
section
variable {P : Program} {w : World} {K : PySem.W.Frag} {mg : Str → Option Value} {base : Heap} {x : Str} {st : Stmt} {N ps : List Str} {k j : Nat} {sp : Sp}
theorem DefAt.okX (D : DefAt K mg x st ps) (S : FnScope N ps (defScope st)) (len : ∀ vs H Q E, sp vs H Q E → vs.length = ps.length)
    (hbody : ∀ (f : Addr) (cdv : Value) (A : Around) (outer : List Env) (s : Shared) (H : Hp) (vs : List V) (Q : VK) (E : XK), Room k (A.deeper (envOfC x (defScope st) s.heap.objs.size f cdv)) → sp vs H Q E →
      ∃ t, PSs (cxOf (L2.CX P w) P w K mg base N x (defScope st) f cdv A outer s H E) (defBody st) t ∧ t { nx := fun _ H' => Q .non H', rt := Q } (start N vs) H) : CalX P w K mg base (L2.CX P w) (k + 1) x ps sp := by
  obtain ⟨f, fd, F, m, b⟩ := D.ex
  exact ⟨f, fd, F.okX S len (hbody f), m, F.kp, b, fun_lk F⟩
end
section
variable {X : Cx} {CX : CXT} {j k : Nat} {x : Str} {ps : List Str} {sp : Sp} {E : XK} {p pos : Pos} {e : Expr} {es : List Expr} {t : TA}
theorem pe_cx (c : CalX X.prog X.w X.K X.mg X.base CX k x ps sp) (hr : Room j X.A) (hk : k ≤ j) (hg : Gl X x) (hx : Passes CX X E) (ha : PA X (e :: es) t)
    (hdb : (x == ("__debug__" : Str)) = false := by decide) (he : starEach (e :: es) X.env = (false, eval e X.env) :: starEach es X.env := by rfl) (hpl : (backTo pos (starEach es X.env)).any (·.1) = false := by rfl) :
    PE X (.Call (.Name x p) (e :: es) [] pos) (tCall sp [] E t) := by
  obtain ⟨f, fd, F, hm, kp, b, _⟩ := c.ex
  exact pe_call F (hr.mono hk) hg hm kp b .nil hx ha hdb he hpl
/-- a callee that lets nothing out -/
theorem pe_c0 (c : CalX X.prog X.w X.K X.mg X.base CX0 k x ps sp) (hr : Room j X.A) (hk : k ≤ j) (hg : Gl X x) (ha : PA X (e :: es) t)
    (hdb : (x == ("__debug__" : Str)) = false := by decide) (he : starEach (e :: es) X.env = (false, eval e X.env) :: starEach es X.env := by rfl) (hpl : (backTo pos (starEach es X.env)).any (·.1) = false := by rfl) :
    PE X (.Call (.Name x p) (e :: es) [] pos) (tCall sp [] E0 t) := pe_cx c hr hk hg pass0 ha hdb he hpl
end
/-! ### xs.extend(t), t a tuple -/
theorem list_extend_tup (l : Addr) (items : Array Value) (n : Nat) (b : Addr) (ob : Obj) (items2 : Array Value) (n2 : Nat) (hs0 : ¬(!items.isEmpty && Builtin.List.listTooLong (items.size + items2.size)) = true) (hs1 : items.size ≤ sizeLine) (hs2 : items.size + items2.size ≤ sizeLine + 1) :
    Meets (Builtin.«list.extend» ⟨[.ref l, .ref b], []⟩) (fun _ R s => s.heap.get? l = some { cls := .type "list", dict := none, data := .seq items n, slots := #[] } ∧ s.heap.get? b = some ob ∧ ob.cls = .type "tuple" ∧ ob.data = .seq items2 n2 ∧ R (.ok (.ret Value.none)) { s with heap := s.heap.update l (Obj.mapSeq fun x => x ++ items2), toks := s.toks }) :=
  .of_wp fun prog w A R s h => by
    obtain ⟨hp, g, d, tk, os⟩ := s
    obtain ⟨hl, hb, hc, hd, h⟩ := h
    have hz' : (items ++ items2).size ≤ sizeLine + 1 := by rw [Array.size_append]; exact hs2
    show wpAny _ A.in1 (Builtin.List.listExtendWith (.ref l) (.ref b) .none) _ _ _
    unfold Builtin.List.listExtendWith
    refine wpAny_bind (wpAny_typeOf ⟨ob, hb, hc⟩ ?_)
    have h1 : (Builtin.List.listSameRef (.ref l) (.ref b) || Value.type "tuple" == Value.type "list" || Value.type "tuple" == Value.type "tuple") = true := by simp
    simp only [h1, if_true]
    refine wpAny_bind ?_
    unfold Builtin.List.listItems
    refine wpAny_bind (wpAny_seqItems hb hd (wpAny_pure ?_))
    refine wpAny_bind ?_
    refine wpAny_bind (wpAny_seqItems hl rfl (wpAny_pure ?_))
    simp only [hs0]
    show wpAny _ A.in1 (updateSeq l (· ++ items2) >>= fun _ => ret .none) _ _ _
    refine wpAny_bind (wpAny_updateSeq hl rfl ?_ hs1 hz')
    exact wpAny_pure ⟨_, rfl, h⟩
section
variable {X : Cx}
def rExtendT (K : PySem.W.Frag) : V → List V → Hp → VK → Prop := fun x vs H Q => ∃ l b xs zs, x = .ref l ∧ vs = [.ref b] ∧ H l = some (.lst xs) ∧ SqT K H b zs ∧ xs.length + zs.length ≤ sizeLine ∧ Q .non (upd H l (.lst (xs ++ zs)))
theorem mt_extendT : MtM X "list.extend" (rExtendT X.K) := by
  intro pins s σ H x vs v us Q I rx rv h
  obtain ⟨l, b, xs, zs, rfl, rfl, hH, hB, hz, q⟩ := h
  cases rx
  obtain ⟨u, rfl, ru⟩ := rv.one
  cases ru
  obtain ⟨z, its, n, r, hl, e⟩ := I.lstM hH
  obtain ⟨its2, r2, pl, z2⟩ := I.tuple hB
  obtain ⟨o2, e2, hc2, n2, hd2⟩ := pl
  have hl2 := r2.length
  have hsz : its.toArray.size + its2.toArray.size ≤ sizeLine := by rw [List.size_toArray, List.size_toArray]; omega
  have hlong : ¬ (!its.toArray.isEmpty && Builtin.List.listTooLong (its.toArray.size + its2.toArray.size)) = true := by
    rw [notLongL hsz, Bool.and_false]
    exact Bool.false_ne_true
  refine call_meets F.slot_list_extend ⟨_, e, rfl⟩ F.entry_list_extend (F.args_list_extend_2 _ _)
    (list_extend_tup l its.toArray n b o2 its2.toArray n2 hlong (by rw [List.size_toArray]; omega) (by omega)) ⟨e, e2, hc2, hd2, ?_⟩
  refine ⟨.non, _, I.lset (its' := its ++ its2) hH e (by simp) (r.append r2) ?_, rfl, q⟩
  rw [List.length_append]
  omega
end
/-! ### o.m(k = v, ..): keywords alone -/
def tMethK (C : Addr) (m : Str) (sp : Sp) (n : Nat) (gV : List V → List V) (E : XK) (ta : TE) (tk : TA) : TE := fun σ H Q => ta σ H fun x H1 => ∃ a dx fs, x = .ref a ∧ H1 a = some (.ins C dx fs) ∧ fs.lookup m = none ∧
  tk σ H1 fun zs H2 => zs.length = n ∧ sp (x :: gV zs) H2 Q E
structure KwB (fd : FuncData) (ps ks : List Str) (g : {α : Type} → List α → List α) : Prop where
  to : ∀ (s : Shared) (u : Value) (ws : List Value), ws.length = ks.length → BindsTo s fd ⟨[u], ks.zip ws⟩ (ps.zip (u :: g ws))
  rel : ∀ {zs : List V} {ws : List Value}, Vals zs ws → Vals (g zs) (g ws)
section
variable {X : Cx} {CX : CXT} {k : Nat} {f C : Addr} {fd : FuncData} {ps ks : List Str} {sp : Sp} {E : XK} {x m : Str} {p pos apos : Pos} {o : Expr} {kws : List Keyword} {ta : TE} {tk : TA} {g : {α : Type} → List α → List α}
theorem run_kw {pins : List (Addr × Obj)} {σ : St} {H : Hp} {s : Shared} {Q : VK} {u : Value} {ws : List Value} {v : V} {zs : List V} (F : FnOk X.prog X.w X.K X.mg X.base CX k f fd ps sp) (hr : Room k X.A) (hb : KwB fd ps ks g) (hx : Passes CX X E)
    (I : Inv X pins σ H s) (r : RelV v u) (rz : Vals zs ws) (hl : zs.length = ks.length) (h : sp (v :: g zs) H Q E) : wpAny (model X.prog X.w) X.A (call (.ref f) [u] (ks.zip ws)) (EP X pins σ Q) X.xe s := by
  have r2 : Vals (v :: g zs) (u :: g ws) := .cons r (hb.rel rz)
  refine wpAny_call (codeAny_mono (F.run X.A X.stack s H ⟨[u], ks.zip ws⟩ (u :: g ws) (v :: g zs) Q E hr I.env0 (hb.to s u ws (rz.length.symm.trans hl)) r2 h) fun r s' hq => ?_)
  cases r with
  | error e => exact hx pins σ H s e s' I hq
  | ok fl =>
    cases fl with
    | ret u => exact I.after hq
    | next => exact False.elim hq
    | brk => exact False.elim hq
    | cont => exact False.elim hq
theorem pe_methK {pl : Sem Bool} (he : PE X o ta) (c : Cls X.K C) (hm : Meth X.K C m f) (F : FnOk X.prog X.w X.K X.mg X.base CX k f fd ps sp) (hr : Room k X.A) (hb : KwB fd ps ks g) (hx : Passes CX X E) (hkw : PK X kws tk)
    (ht : eval (.Call (.Attribute o m apos) [] kws pos) X.env = (do
      let ov ← eval o X.env
      standAt apos.atName
      let (f, first) ← holding [ov] (getMethod ov m pl)
      callWith pos f first (backTo pos (starEach [] X.env)) (backToKw pos (keywordEach kws X.env))) := by rfl)
    (hall : (backToKw pos (keywordEach kws X.env)).all (·.1.isSome) = true := by rfl) (hks : (backToKw pos (keywordEach kws X.env)).filterMap (·.1) = ks := by rfl)
    (hpl : ((backTo pos (starEach [] X.env)).any (·.1) || (backToKw pos (keywordEach kws X.env)).any (·.1.isNone)) = false := by rfl) :
    PE X (.Call (.Attribute o m apos) [] kws pos) (tMethK C m sp ks.length g E ta tk) := by
  refine ⟨fun pins s σ H Q I h => ?_⟩
  refine PySem.W.methodCall_KW (pl := pl) (thn (he.run pins s σ H _ I h) fun u s1 ⟨x, H1, I1, rx, a, dx, fs, ex, ea, l, q⟩ => ?_) ht
  subst ex
  obtain rfl : u = Value.ref a := rx
  refine getmeth_ok I1 ea c hm l ?_
  refine PySem.W.callWith_KW0 (first := [.ref a]) (h₀ := X.base) I.ok.mod.kin hm.kp hall ?_ hpl
  refine thn (hkw.run pos pins s1 σ H1 _ I1 q) fun ws s2 ⟨zs, H2, I2, rz, hl, q2⟩ => ⟨I2.kIn, ?_⟩
  rw [hks]
  exact run_kw (v := .ref a) F hr hb hx I2 (show RelV (V.ref a) (Value.ref a) from rfl) rz hl q2
end
/-! ### try: .. except C as n: ..; except ..: .. where only the first clause is met -/
def wAs1 (K : PySem.W.Frag) (c : Value) (i : Nat) (ts : Addr → Value → Option Addr → TS) (D : Ends) : WX := fun cls d σ H =>
  PySem.W.exmOne K cls c = some true ∧ ∀ a, H a = none → ts a cls d { nx := fun σ' H' => D.nx (σ'.set i none) H', rt := D.rt, bk := fun σ' H' => D.bk (σ'.set i none) H', ct := fun σ' H' => D.ct (σ'.set i none) H' } (σ.set i (some (.ref a))) H
section
variable {X : Cx} {x n : Str} {c : Value} {i : Nat} {body suite : List Stmt} {b₀ : Stmt} {np pos pos' : Pos} {hds : List ExceptHandler} {tb : WX → TS} {ts : Addr → Value → Option Addr → TS}
theorem ps_try_as2 (hs : X.stack = X.env :: X.outer) (hf : X.env.frame = some X.env.locals) (hN : X.N.Nodup) (hi : X.N[i]? = some n) (hln : X.env.kindOf n = some .local) (hc : Names X x c)
    (hb : ∀ (W : WX) (pn : List (Addr × Obj)) (xe : Value → Shared → Prop), Takes (X.tr pn xe) W → PassesOwn (model X.prog X.w) X.A X.env xe → PSs (X.tr pn xe) body (tb W))
    (hsu : ∀ (a : Addr) (oe : Obj) (cls : Value) (d : Option Addr) (pn : List (Addr × Obj)), Zc cls d oe → (∃ vs, oe.data = .fields vs) → PSs (X.suite a ((a, oe) :: pn)) (b₀ :: suite) (ts a cls d)) :
    PS X (.Try body (.ExceptHandler (some (.Name x np)) (some n) (b₀ :: suite) pos' :: hds) [] [] pos) (fun D σ H => tb (wAs1 X.K c i ts D) D σ H) := by
  refine ⟨fun pins s σ H D I h => ?_⟩
  have ok := I.ok
  have hfr : X.A.frames = some (X.env :: X.outer) := by rw [ok.frames, hs]
  have hloc : Loc X.env.scope n := .inl hln
  refine wpAny_Try_except ?_
  refine wpAny_mono ((hb (wAs1 X.K c i ts D) (X.pn ++ pins) (fun e s₁ => wpAny (model X.prog X.w) X.A (noteFrame e X.env) (fun _ s₂ => wpAny (model X.prog X.w) X.A (setFlight e none) (fun _ s₃ =>
    wpAny (model X.prog X.w) X.A (handleBy e X.env (.ExceptHandler (some (.Name x np)) (some n) (b₀ :: suite) pos' :: hds)) (SP X pins D) X.xe s₃) X.xe s₂) X.xe s₁) (fun u s' xx => ?_) PassesOwn.looking).run [] s σ H D (I.toTry _) h) (fun f s1 hsp => ?_) (fun e s1 he => he)
  · obtain ⟨a, B, sI, pins', σ', H', cls, d, rfl, J', nb, up, sky, na, os, ag, hb1, hyes⟩ := xx
    have J : Inv X pins σ' H' sI := J'.ofTry ok
    have sky' : Sky B (X.env :: X.outer) a (Zc cls d) X.env.locals s'.heap := by rw [← hs]; exact sky
    show wpAny (model X.prog X.w) X.A (noteFrame (.ref a) X.env) _ _ _
    refine Sky.land Zc.steady hfr hf sky' fun h3 fl3 up3 => ?_
    have J3 : Inv X pins σ' H' { s' with heap := h3 } := J.landed nb fl3.1 (up.trans up3) os ag
    obtain ⟨oe3, vs3, he3, hz3, hd3⟩ := fl3.there
    have notFr : ∀ {h : Heap} {o : Obj} {vs : Array Value}, h.FunFrames B (X.env :: X.outer) → h.get? a = some o → o.data = .fields vs → a ∉ frs (X.env :: X.outer) := fun {h o vs} ff e dd hm => by
      obtain ⟨_, o', e', hnf⟩ := ff.mem hm
      rw [e] at e'; cases e'
      exact hnf _ dd
    have nfr := notFr fl3.2.2.1 he3 hd3
    have nL : a ≠ X.env.locals := fun z => nfr (List.mem_filterMap.mpr ⟨X.env, List.mem_cons_self, by rw [hf, z]⟩)
    have nF : a ∉ X.fs := fun hm => by
      obtain ⟨e, he, q⟩ := List.mem_filterMap.mp hm
      exact nfr (List.mem_filterMap.mpr ⟨e, List.mem_cons_of_mem _ he, q⟩)
    have S3 := J3.suite he3 hd3 na nL nF
    refine wpAny_handleBy_cons (codeAny_handlers_test ?_) (by intro q; cases q)
    have LT : PySem.W.Looks (model X.prog X.w) h3 (typeOf (.ref a)) cls := fun A Q E s k q => wpAny_typeOf_ref (k _ _ he3) (by rw [hz3.1]; exact q)
    have LM := PySem.W.exm_one (M := model X.prog X.w) (J3.kIn) LT hb1
    have test : ∀ {Q : Value → Shared → Prop} {E : Value → Shared → Prop}, Q c { s' with heap := h3 } → wpAny (model X.prog X.w) (X.A.mark (some (.ref a))) (eval (.Name x np) X.env) Q E { s' with heap := h3 } := fun {Q E} q => by
      obtain ⟨hg, hdbg, hm | ⟨hm, hv, hnn⟩⟩ := hc
      · exact ld_glob (X := X.suite a ((a, oe3) :: (X.pn ++ pins))) S3 hg hm q hdbg
      · exact ld_blt (X := X.suite a ((a, oe3) :: (X.pn ++ pins))) S3 hg hm hv q hnn hdbg
    refine test (LM.here ?_)
    refine codeAny_handlers_suite_as ?_
    refine HandSPX.lands_againZ fl3 fun h4 fl4 up4 => ?_
    have J4 : Inv X pins σ' H' { s' with heap := h4 } := J.landed nb fl4.1 ((up.trans up3).trans up4) os ag
    obtain ⟨oe4, vs4, he4, hz4, hd4⟩ := fl4.there
    have S4 := J4.suite he4 hd4 na nL nF
    refine store_ok (X := X.suite a ((a, oe4) :: (X.pn ++ pins))) (v := .ref a) S4 hN hi hloc rfl (fun s5 S5 => ?_) (.inr hln)
    refine wpAny_mono ((hsu a oe4 cls d (X.pn ++ pins) hz4 ⟨_, hd4⟩).run [] s5 _ H' _ S5 (hyes a na)) (fun f s6 hsp => ?_) (fun _ _ z => False.elim z)
    have end_ : ∀ {σ6 : St} {H6 : Hp} {Q : Shared → Prop}, Inv (X.suite a ((a, oe4) :: (X.pn ++ pins))) [] σ6 H6 s6 → (∀ s7, Inv X pins (σ6.set i none) H6 s7 → Q s7) →
        wpAny (model X.prog X.w) X.A (do bindName X.env n .none; unbindBehindTheSuite X.env n pos') (fun _ s7 => Q s7) X.xe s6 := fun {σ6 H6 Q} S6 hq => gone_ok (S6.unsuite ok) hN hi hln hq
    cases f with
    | next =>
      obtain ⟨σ6, H6, S6, q6⟩ := hsp
      exact end_ S6 fun s7 J7 => ⟨_, _, J7, q6⟩
    | brk =>
      obtain ⟨σ6, H6, S6, q6⟩ := hsp
      exact end_ S6 fun s7 J7 => ⟨_, _, J7, q6⟩
    | cont =>
      obtain ⟨σ6, H6, S6, q6⟩ := hsp
      exact end_ S6 fun s7 J7 => ⟨_, _, J7, q6⟩
    | ret u =>
      obtain ⟨v6, σ6, H6, S6, r6, q6⟩ := hsp
      exact end_ S6 fun s7 J7 => ⟨_, _, _, J7, r6, q6⟩
  · cases f with
    | next =>
      obtain ⟨σ', H', J', q⟩ := hsp
      exact wpAny_execs_nil ⟨σ', H', J'.ofTry ok, q⟩
    | brk =>
      obtain ⟨σ', H', J', q⟩ := hsp
      exact ⟨σ', H', J'.ofTry ok, q⟩
    | cont =>
      obtain ⟨σ', H', J', q⟩ := hsp
      exact ⟨σ', H', J'.ofTry ok, q⟩
    | ret u =>
      obtain ⟨v, σ', H', J', r, q⟩ := hsp
      exact ⟨v, σ', H', J'.ofTry ok, r, q⟩
end
end L2
set_option Elab.async false
set_option linter.all false
set_option maxRecDepth 100000
set_option maxHeartbeats 4000000
namespace K23
open PySem PySem.Spec PyProof.Rows L2
/-- the class NotUsable at U, its __init__ at fI -/
structure NUT (K : PySem.W.Frag) (mg : Str → Option Value) (U fI : Addr) : Prop where
  gU : mg "NotUsable" = some (.ref U)
  ox : OexC K U
  xf : XfC K U
  nw : PySem.W.findIn K (.ref U) "word" = some none
  na : PySem.W.findIn K (.ref U) "at" = some none
  iC : PySem.W.findIn K (.ref U) "__init__" = some (some (.ref fI))
  tI : PySem.W.typeIn K (.ref fI) = some (.type "function")
  te : PySem.W.exmOne K (.ref U) (.ref U) = some true
  fn : ∃ fd, Fun K "__init__" "NotUsable.__init__" s_NotUsable_init fI fd ∧ Binds K fd ["self", "word", "at"] []
section
variable {P : Program} {w : World} {K : PySem.W.Frag} {mg : Str → Option Value} {base : Heap} {U fI : Addr}
/-! ### NotUsable.__init__ -/
def hInit (U a dx : Addr) (z : Str) (i : Int) (H : Hp) : Hp := upd (upd (upd H dx (exd dx [("word", .str z)])) a (exo a U (some dx))) dx (exd dx [("at", .int i), ("word", .str z)])
def spNU (U : Addr) : Sp := fun vs H Q _ => ∃ (a : Addr) (z : Str) (i : Int), vs = [.ref a, .str z, .int i] ∧ H a = some (exo a U none) ∧ ∀ dx, H dx = none → dx ≠ a → Q .non (hInit U a dx z i H)
theorem ok_nu (T : NUT K mg U fI) : ∃ fd, FnOk P w K mg base CX0 1 fI fd ["self", "word", "at"] (spNU U) ∧ Binds K fd ["self", "word", "at"] [] := by
  obtain ⟨fd, F, b⟩ := T.fn
  refine ⟨fd, F.ok sc_NotUsable_init (fun vs H Q E h => ?_) (fun cdv A outer s H vs Q E hr h => ?_), b⟩
  · obtain ⟨a, z, i, rfl, _⟩ := h
    rfl
  obtain ⟨a, z, i, rfl, ha, q⟩ := h
  refine ⟨_, pss_cons (ps_ost (pv 0) (pv 1)) (pss_one (ps_ost (pv 0) (pv 2))), ?_⟩
  refine ⟨_, rfl, _, rfl, a, U, rfl, T.ox, T.nw, .inl ⟨ha, fun dx hdx hne => ?_⟩⟩
  refine ⟨_, rfl, _, rfl, a, U, rfl, T.ox, T.na, .inr ⟨dx, [("word", .str z)], upd_same, ?_, (by show 1 ≤ 900; decide), ?_⟩⟩
  · rw [upd_ne hne, upd_same]
  · exact q dx hdx hne
/-! ### is_integer, is_number, is_below -/
theorem ok_integer (D : DefAt K mg "is_integer" s_is_integer ["thing"]) (T : Txt K mg) : CalX P w K mg base CX0 1 "is_integer" ["thing"] (spInteger K) := by
  obtain ⟨f, fd, F, m, b⟩ := D.ex
  exact ⟨f, fd, ok_is_integer F T, m, F.kp, b, fun_lk F⟩
def numB : Option Int → Bool
  | some i => decide (0 ≤ i)
  | none => false
def spNumber (K : PySem.W.Frag) : Sp := fun vs H Q _ => ∃ x o, vs = [x] ∧ NumV K H x o ∧ Q (.bl (numB o)) H
theorem ok_number (D : DefAt K mg "is_number" s_is_number ["thing"]) (GI : CalX P w K mg base CX0 1 "is_integer" ["thing"] (spInteger K)) : CalX P w K mg base CX0 2 "is_number" ["thing"] (spNumber K) := by
  refine D.ok sc_is_number (fun vs H Q E h => ?_) (fun f cdv A outer s H vs Q E hr h => ?_)
  · obtain ⟨x, o, rfl, _⟩ := h
    rfl
  obtain ⟨x, o, rfl, hx, q⟩ := h
  refine ⟨_, pss_one (ps_ret (pe_and (pe_c0 GI hr (by decide) rfl (pa_cons (pv 0) pa_nil)) (pe_one (pe_cmpR op_ge (pv 0) pe_int (nomark _))))), ?_⟩
  refine ⟨_, rfl, x, o, rfl, hx, _, rfl, ?_⟩
  cases o with
  | none => exact iteF q
  | some i =>
    obtain rfl : x = .int i := hx
    exact iteT ⟨_, rfl, _, _, rfl, rfl, q⟩
def belowB (n : Int) : Option Int → Bool
  | some i => decide (0 ≤ i) && decide (i < n)
  | none => false
def spBelow (K : PySem.W.Frag) : Sp := fun vs H Q _ => ∃ (x : V) (o : Option Int) (n : Int), vs = [x, .int n] ∧ NumV K H x o ∧ Q (.bl (belowB n o)) H
theorem ok_below (D : DefAt K mg "is_below" s_is_below ["thing", "bound"]) (GN : CalX P w K mg base CX0 2 "is_number" ["thing"] (spNumber K)) : CalX P w K mg base CX0 3 "is_below" ["thing", "bound"] (spBelow K) := by
  refine D.ok sc_is_below (fun vs H Q E h => ?_) (fun f cdv A outer s H vs Q E hr h => ?_)
  · obtain ⟨x, o, n, rfl, _⟩ := h
    rfl
  obtain ⟨x, o, n, rfl, hx, q⟩ := h
  refine ⟨_, pss_one (ps_ret (pe_and (pe_c0 GN hr (by decide) rfl (pa_cons (pv 0) pa_nil)) (pe_one (pe_cmpR op_lt (pv 0) (pv 1) (nomark _))))), ?_⟩
  refine ⟨_, rfl, x, o, rfl, hx, _, rfl, ?_⟩
  cases o with
  | none => exact iteF q
  | some i =>
    obtain rfl : x = .int i := hx
    cases e : numB (some i) with
    | false =>
      refine iteF ?_
      have e2 : belowB n (some i) = false := by
        show (decide (0 ≤ i) && decide (i < n)) = false
        rw [show decide (0 ≤ i) = false from e, Bool.false_and]
      rw [e2] at q
      exact q
    | true =>
      refine iteT ⟨_, rfl, _, rfl, _, _, rfl, rfl, ?_⟩
      have e2 : belowB n (some i) = decide (i < n) := by
        show (decide (0 ≤ i) && decide (i < n)) = decide (i < n)
        rw [show decide (0 ≤ i) = true from e, Bool.true_and]
      rw [e2] at q
      exact q
/-! ### need -/
/-- the dict of the error -/
def xdO (z : Str) (i : Int) : HO := .xd [("at", .int i), ("word", .str z)]
def spNeed (U : Addr) : Sp := fun vs H Q E => ∃ (b : Bool) (z : Str), vs = [.bl b, .str z] ∧ (b = true → Q .non H) ∧ (b = false → ∀ d, H d = none → E (.ref U) (some d) (upd H d (xdO z (-1))))
theorem ok_need (D : DefAt K mg "need" s_need ["fits", "word"]) (T : NUT K mg U fI) : CalX P w K mg base (L2.CX P w) 3 "need" ["fits", "word"] (spNeed U) := by
  refine D.okX sc_need (fun vs H Q E h => ?_) (fun f cdv A outer s H vs Q E hr h => ?_)
  · obtain ⟨b, z, rfl, _⟩ := h
    rfl
  obtain ⟨b, z, rfl, q1, q2⟩ := h
  obtain ⟨fdI, FI, bI⟩ := ok_nu (P := P) (w := w) (base := base) T
  refine ⟨_, pss_one (ps_if (pt_not (pt_val (pv 0))) (pss_one (ps_raise rfl (takes_of rfl rfl rfl rfl) (pmk_oex T.ox T.iC T.tI FI hr bI .nil pass0 rfl T.gU (pa_cons (pv 1) (pa_cons (pe_un un_neg pe_int) pa_nil))))) pss_nil), ?_⟩
  refine ⟨_, rfl, b, rfl, ?_⟩
  cases b with
  | true => exact iteF (q1 rfl)
  | false =>
    refine iteT ?_
    refine ⟨_, rfl, 1, rfl, (by show 2 ≤ 1000; decide), fun a ha => ?_⟩
    refine ⟨a, z, -1, rfl, upd_same, fun dx hdx hne => ⟨rfl, dx, [("at", .int (-1)), ("word", .str z)], ?_, upd_same, ?_, ?_⟩⟩
    · show hInit U a dx z (-1) (upd H a (exo a U none)) a = _
      unfold hInit
      rw [upd_ne (Ne.symm hne), upd_same]
    · rw [upd_ne hne] at hdx
      exact hdx
    · have e : upd (del (hInit U a dx z (-1) (upd H a (exo a U none))) a) dx (.xd [("at", .int (-1)), ("word", .str z)]) = upd H dx (xdO z (-1)) := by
        funext y
        unfold hInit xdO
        by_cases h1 : y = dx
        · rw [h1, upd_same, upd_same]
        · rw [upd_ne h1, upd_ne h1]
          by_cases h2 : y = a
          · rw [h2, del_same, ha]
          · rw [del_ne h2, upd_ne h1, upd_ne h2, upd_ne h1, upd_ne h2]
      rw [e]
      rw [upd_ne hne] at hdx
      exact q2 rfl dx hdx
end
end K23
set_option Elab.async false
set_option linter.all false
set_option maxRecDepth 100000
set_option maxHeartbeats 4000000
namespace K23
open PySem PySem.Spec PyProof.Rows L2
/-! ### shapes: a tuple is the list of its children -/
/-- o: no (further) child; c k r: the child k, then those of r; x: a value that is no tuple -/
inductive Dt | x | o | c (k r : Dt)
namespace Dt
def len : Dt → Nat | c _ r => r.len + 1 | _ => 0
def size : Dt → Nat | c k r => k.size + r.size + 1 | _ => 1
def isx : Dt → Bool | x => true | _ => false
/-- the children as a list -/
def kids : Dt → List Dt | c k r => k :: r.kids | _ => []
/-- all is well at this node -/
def here (least : Nat) (t : Dt) : Bool := !t.isx && decide (t.len ≤ 6) && !(decide (0 < t.len) && decide (t.len < least))
/-- all is well at all nodes of the children -/
def deep (least : Nat) : Dt → Bool | c k r => here least k && deep least k && deep least r | _ => true
def good (least : Nat) (t : Dt) : Bool := here least t && deep least t
theorem kids_len : ∀ t : Dt, t.kids.length = t.len | x => rfl | o => rfl | c _ r => congrArg (· + 1) (kids_len r)
theorem kids_good (l : Nat) : ∀ t : Dt, deep l t = t.kids.all (good l)
  | x => rfl
  | o => rfl
  | c k r => by
    show (here l k && deep l k && deep l r) = ((here l k && deep l k) && r.kids.all (good l))
    rw [kids_good l r]
theorem size_pos : ∀ t : Dt, 1 ≤ t.size | x => Nat.le_refl 1 | o => Nat.le_refl 1 | c _ _ => Nat.le_add_left 1 _
def sizes (l : List Dt) : Nat := (l.map size).sum
theorem sizes_kids : ∀ t : Dt, sizes t.kids + 1 ≤ t.size + t.len
  | x => Nat.le_refl 1
  | o => Nat.le_refl 1
  | c k r => by
    have q := sizes_kids r
    show (k.size + sizes r.kids) + 1 ≤ k.size + r.size + 1 + (r.len + 1)
    omega
end Dt
/-- the values of a row -/
inductive DtF (K : PySem.W.Frag) (H : Hp) : List V → Dt → Prop
  | nil : DtF K H [] .o
  | bad {v : V} {ws : List V} {r : Dt} {t : String} (h : KindV K H v t) (n : t ≠ "tuple") (q : DtF K H ws r) : DtF K H (v :: ws) (.c .x r)
  | tup {a : Addr} {vs ws : List V} {k r : Dt} (h : SqT K H a vs) (p : DtF K H vs k) (q : DtF K H ws r) : DtF K H (.ref a :: ws) (.c k r)
/-- one value -/
def DtV (K : PySem.W.Frag) (H : Hp) (v : V) (t : Dt) : Prop := (t = .x ∧ ∃ s, KindV K H v s ∧ s ≠ "tuple") ∨ ∃ a vs, v = .ref a ∧ SqT K H a vs ∧ DtF K H vs t
theorem tyx_tup {K : PySem.W.Frag} {H : Hp} {a : Addr} {xs : List V} (h : SqT K H a xs) : TyX K H (.ref a) (.type "tuple") := by
  rcases h with (h | ⟨o, h⟩) | ⟨o, its, n, h1, h2, _⟩
  · exact .base (.tup h)
  · exact .fTuple h
  · exact .kTuple h1 h2
theorem kind_sqt {K : PySem.W.Frag} {H : Hp} {a : Addr} {xs : List V} (h : SqT K H a xs) : KindV K H (.ref a) "tuple" := ⟨tyx_tup h, by simp⟩
theorem DtF.no_x {K : PySem.W.Frag} {H : Hp} {vs : List V} {t : Dt} (h : DtF K H vs t) : t.isx = false := by
  cases h <;> rfl
theorem DtF.len {K : PySem.W.Frag} {H : Hp} : ∀ {vs : List V} {t : Dt}, DtF K H vs t → vs.length = t.len
  | _, _, .nil => rfl
  | _, _, .bad _ _ q => congrArg (· + 1) q.len
  | _, _, .tup _ _ q => congrArg (· + 1) q.len
theorem DtF.kids {K : PySem.W.Frag} {H : Hp} : ∀ {vs : List V} {t : Dt}, DtF K H vs t → Paired (DtV K H) vs t.kids
  | _, _, .nil => .nil
  | _, _, .bad h n q => .cons (.inl ⟨rfl, _, h, n⟩) q.kids
  | _, _, .tup h p q => .cons (.inr ⟨_, _, rfl, h, p⟩) q.kids
theorem same_sqt {K : PySem.W.Frag} {H H' : Hp} {a : Addr} {xs : List V} (e : Same H H') (h : SqT K H a xs) : SqT K H' a xs := by
  rcases h with (h | ⟨o, h⟩) | h
  · exact .inl (.inl (e _ _ h))
  · exact .inl (.inr ⟨o, e _ _ h⟩)
  · exact .inr h
theorem same_kind {K : PySem.W.Frag} {H H' : Hp} {v : V} {t : String} (e : Same H H') (h : KindV K H v t) : KindV K H' v t := by
  obtain ⟨h, z⟩ := h
  refine ⟨?_, z⟩
  cases h with
  | base h =>
    cases h with
    | non => exact .base .non
    | bl b => exact .base (.bl b)
    | int i => exact .base (.int i)
    | str s => exact .base (.str s)
    | flt s => exact .base (.flt s)
    | lst h => exact .base (.lst (e _ _ h))
    | frz h => exact .base (.frz (e _ _ h))
    | tup h => exact .base (.tup (e _ _ h))
    | dK h => exact .base (.dK (e _ _ h))
    | dT h => exact .base (.dT (e _ _ h))
  | byt b => exact .byt b
  | set h => exact .set (e _ _ h)
  | kList a b => exact .kList a b
  | kTuple a b => exact .kTuple a b
  | kDict a b => exact .kDict a b
  | fTuple h => exact .fTuple (e _ _ h)
  | fDict h => exact .fDict (e _ _ h)
theorem same_dtf {K : PySem.W.Frag} {H H' : Hp} (e : Same H H') : ∀ {vs : List V} {t : Dt}, DtF K H vs t → DtF K H' vs t
  | _, _, .nil => .nil
  | _, _, .bad h n q => .bad (same_kind e h) n (same_dtf e q)
  | _, _, .tup h p q => .tup (same_sqt e h) (same_dtf e p) (same_dtf e q)
theorem same_dtv {K : PySem.W.Frag} {H H' : Hp} {v : V} {t : Dt} (e : Same H H') (h : DtV K H v t) : DtV K H' v t := by
  rcases h with ⟨a, s, b, c⟩ | ⟨a, vs, b, c, d⟩
  · exact .inl ⟨a, s, same_kind e b, c⟩
  · exact .inr ⟨a, vs, b, same_sqt e c, same_dtf e d⟩
theorem Paired.mono {α β : Type} {F G : α → β → Prop} (h : ∀ a b, F a b → G a b) : ∀ {l₁ : List α} {l₂ : List β}, Paired F l₁ l₂ → Paired G l₁ l₂
  | _, _, .nil => .nil
  | _, _, .cons r t => .cons (h _ _ r) (Paired.mono h t)
theorem Paired.app {α β : Type} {F : α → β → Prop} : ∀ {l₁ m₁ : List α} {l₂ m₂ : List β}, Paired F l₁ l₂ → Paired F m₁ m₂ → Paired F (l₁ ++ m₁) (l₂ ++ m₂)
  | _, _, _, _, .nil, s => s
  | _, _, _, _, .cons r t, s => .cons r (Paired.app t s)
theorem Paired.len {α β : Type} {F : α → β → Prop} : ∀ {l₁ : List α} {l₂ : List β}, Paired F l₁ l₂ → l₁.length = l₂.length
  | _, _, .nil => rfl
  | _, _, .cons _ t => congrArg (· + 1) (Paired.len t)
/-- the last pair -/
theorem Paired.last {α β : Type} {F : α → β → Prop} {l₁ : List α} {l₂ : List β} (h : Paired F l₁ l₂) (n : l₁ ≠ []) : ∃ a b l m, l₁ = l ++ [a] ∧ l₂ = m ++ [b] ∧ F a b ∧ Paired F l m := by
  induction h with
  | nil => exact absurd rfl n
  | @cons a b l m r t ih =>
    cases t with
    | nil => exact ⟨a, b, [], [], rfl, rfl, r, .nil⟩
    | @cons a' b' l' m' r' t' =>
      obtain ⟨x, y, p, q, e1, e2, f, g⟩ := ih (by simp)
      exact ⟨x, y, a :: p, b :: q, by rw [e1] <;> rfl, by rw [e2] <;> rfl, f, .cons r g⟩
section
variable {P : Program} {w : World} {K : PySem.W.Frag} {mg : Str → Option Value} {base : Heap}
theorem same_new {H : Hp} {p : Addr} {o : HO} (h : H p = none) : Same H (upd H p o) := fun b u q => by rw [upd_ne (ne_of_none q h)]; exact q
/-- a new object changes -/
theorem same_mut {H H' : Hp} {p : Addr} {o : HO} (e : Same H H') (h : H p = none) : Same H (upd H' p o) := fun a u ha => by
  rw [upd_ne (ne_of_none ha h)]
  exact e a u ha
/-! ### has_forks_of -/
def spForks (K : PySem.W.Frag) : Sp := fun vs H Q _ => ∃ (v : V) (t : Dt) (least : Nat), vs = [v, .int least] ∧ DtV K H v t ∧ t.size ≤ 100000 ∧ ∀ H', Same H H' → Q (.bl (t.good least)) H'
theorem ok_forks (D : DefAt K mg "has_forks_of" s_has_forks_of ["thing", "least"]) (T : Txt K mg) (mk : ∃ t, mg "MOST_CHILDREN" = some (.int 6 t)) : CalX P w K mg base CX0 1 "has_forks_of" ["thing", "least"] (spForks K) := by
  obtain ⟨tk, mk⟩ := mk
  refine D.ok sc_has_forks_of (fun vs H Q E h => ?_) (fun f cdv A outer s H vs Q E hr h => ?_)
  · obtain ⟨v, t, l, rfl, _⟩ := h
    rfl
  obtain ⟨v, t, least, rfl, hv, hs, q⟩ := h
  refine ⟨_, pss_cons (ps_set (i := 2) sc_has_forks_of.nd rfl (.inl rfl) (pe_lst (pa_cons (pv 0) pa_nil)))
    (pss_cons (ps_while PassesOwn.never (pt_truth (pv 2) (by intro _; rfl))
      (pss_cons (ps_set (i := 3) sc_has_forks_of.nd rfl (.inl rfl) (pe_bm0 PySem.F.plainAttrs_list PySem.F.slot_list_pop PySem.F.type_list_pop mt_pop (pv 2)))
      (pss_cons (ps_if (PW.pt (pw_or (pt_not (pt_val (pe_callB call_isi (by rfl) T.isinstance boot_isinstance (pa_cons (pv 3) (pa_cons (pe_bltn (v := .ty "tuple") (by rfl) T.tuple PyProof.Rows.boot_tuple rfl) pa_nil)))))
          (pw_or1 (pt_cmpR op_gt (pe_callB call_len_seq (by rfl) T.len PySem.boot_len (pa_cons (pv 3) pa_nil)) (pe_glob (v := .int 6) (by rfl) mk ⟨_, rfl⟩) (nomark _))))) (pss_one (ps_ret pe_bl)) pss_nil)
      (pss_cons (ps_if (pt_chain op_lt op_lt pe_int (pe_callB call_len_seq (by rfl) T.len PySem.boot_len (pa_cons (pv 3) pa_nil)) (pv 1)) (pss_one (ps_ret pe_bl)) pss_nil)
      (pss_one (ps_expr (pe_bm PySem.F.plainAttrs_list PySem.F.slot_list_extend PySem.F.type_list_extend mt_extendT (pv 2) (pa_cons (pv 3) pa_nil))))))))
    (pss_one (ps_ret pe_bl))), ?_⟩
  refine ⟨_, rfl, (by show 1 ≤ sizeLine; decide), fun l hl => ?_⟩
  refine ⟨fun m σ H' => ∃ (xs : List V) (ds : List Dt) (pv : Option V), σ = [some v, some (.int least), some (.ref l), pv] ∧ Same H H' ∧ H' l = some (.lst xs) ∧ Paired (DtV K H) xs ds ∧ m = Dt.sizes ds ∧ Dt.sizes ds ≤ 100000 ∧ t.good least = ds.all (Dt.good least),
    ⟨Dt.sizes [t], [v], [t], none, rfl, same_new hl, upd_same, .cons hv .nil, rfl, (by show t.size + 0 ≤ 100000; omega), by simp⟩, fun m σ H' hW => ?_⟩
  obtain ⟨xs, ds, pv, rfl, sm, hL, hp, rfl, hz, hg⟩ := hW
  have hlen := Paired.len hp
  refine ⟨_, rfl, !xs.isEmpty, .inl ⟨xs, .inl (.inl hL), rfl⟩, ?_⟩
  cases xs with
  | nil =>
    cases hp
    refine iteF ?_
    rw [show t.good least = true from hg] at q
    exact q H' sm
  | cons x0 xr =>
    refine iteT ?_
    obtain ⟨a, b, l1, m1, e1, e2, hab, hlm⟩ := Paired.last hp (by simp)
    rw [e1] at hL hlen
    rw [e2] at hz hg hlen ⊢
    have es : Dt.sizes (m1 ++ [b]) = Dt.sizes m1 + b.size := by simp [Dt.sizes]
    have eg : (m1 ++ [b]).all (Dt.good least) = (m1.all (Dt.good least) && Dt.good least b) := by simp
    refine ⟨_, fun _ _ z => z, ?_⟩
    -- part = left.pop()
    refine ⟨_, rfl, .inl ⟨rfl, _, .inl (.inl hL)⟩, l, _, a, rfl, rfl, hL, by simp, ?_⟩
    rw [List.dropLast_concat]
    have sm1 : Same H (upd H' l (.lst l1)) := same_mut sm hl
    have bad : Dt.here least b = false → t.good least = false := fun z => by
      rw [hg, eg]
      unfold Dt.good
      rw [z]
      simp
    rcases hab with ⟨rfl, s', hk, hn⟩ | ⟨ad, vs', rfl, hS, hF⟩
    · -- no tuple
      have hk' := same_kind sm1 hk
      have e3 : (s' == "tuple") = false := by simpa using hn
      refine isi_read rfl hk'.1 (kit_tup hk'.2) ⟨_, rfl, ?_⟩
      rw [e3]
      refine iteT (iteT ?_)
      rw [bad rfl] at q
      exact q _ sm1
    · have hS' := same_sqt sm1 hS
      refine isi_read rfl (tyx_tup hS') (kit_tup (t := "tuple") (by simp)) ⟨_, rfl, ?_⟩
      refine iteF ?_
      have lk := hF.len
      refine ⟨_, rfl, ad, vs', rfl, .inr hS', _, _, rfl, rfl, _, rfl, ?_⟩
      refine ite2 (fun c => ?_) (fun c => ?_)
      · have c' : (6 : Int) < (vs'.length : Int) := of_decide_eq_true c
        rw [bad ?_] at q
        · exact q _ sm1
        · unfold Dt.here
          rw [show decide (b.len ≤ 6) = false from decide_eq_false (by omega)]
          simp
      · have c' : ¬ (6 : Int) < (vs'.length : Int) := fun z => c (decide_eq_true z)
        have h6 : decide (b.len ≤ 6) = true := decide_eq_true (by omega)
        have nx : b.isx = false := hF.no_x
        have skids : ∀ b' : Dt, Dt.sizes b'.kids < b'.size := fun b' => by
          induction b' with
          | x => exact Nat.lt_succ_self 0
          | o => exact Nat.lt_succ_self 0
          | c k r _ ih =>
            show k.size + Dt.sizes r.kids < k.size + r.size + 1
            omega
        have sk := skids b
        have ek : Dt.sizes (m1 ++ b.kids) = Dt.sizes m1 + Dt.sizes b.kids := by simp [Dt.sizes]
        have hlm' := Paired.len hlm
        have lsz : ∀ ds : List Dt, ds.length ≤ Dt.sizes ds := fun ds => by
          induction ds with
          | nil => exact Nat.le_refl 0
          | cons d ds ih =>
            have := d.size_pos
            show ds.length + 1 ≤ d.size + Dt.sizes ds
            omega
        have l1z := lsz m1
        have l2z := lsz b.kids
        have lk2 := b.kids_len
        have g2 : Dt.here least b = true → t.good least = (m1 ++ b.kids).all (Dt.good least) := fun z => by
          rw [hg, eg]
          unfold Dt.good
          rw [z, List.all_append, Dt.kids_good]
          rfl
        have sz : l1.length + vs'.length ≤ sizeLine := by
          rw [sizeLine_eq]
          omega
        refine ⟨_, rfl, ad, vs', rfl, .inr hS', _, _, rfl, rfl, _, rfl, ?_⟩
        refine ite2 (fun c1 => ?_) (fun c1 => ?_)
        · have c1' : (0 : Int) < (vs'.length : Int) := of_decide_eq_true c1
          refine ⟨_, rfl, _, _, rfl, rfl, _, rfl, ?_⟩
          refine ite2 (fun c2 => ?_) (fun c2 => ?_)
          · have c2' : (vs'.length : Int) < (least : Int) := of_decide_eq_true c2
            rw [bad ?_] at q
            · exact q _ sm1
            · unfold Dt.here
              rw [decide_eq_true (show 0 < b.len by omega), decide_eq_true (show b.len < least by omega)]
              simp
          · have c2' : ¬ (vs'.length : Int) < (least : Int) := fun z => c2 (decide_eq_true z)
            have hh : Dt.here least b = true := by
              unfold Dt.here
              rw [nx, h6, decide_eq_false (show ¬ b.len < least by omega)]
              simp
            refine ⟨_, rfl, .inl ⟨rfl, _, .inl (.inl upd_same)⟩, _, rfl, l, ad, l1, vs', rfl, rfl, upd_same, hS', sz, ?_⟩
            refine ⟨_, by omega, l1 ++ vs', m1 ++ b.kids, _, rfl, same_mut sm1 hl, upd_same, Paired.app hlm hF.kids, rfl, by omega, g2 hh⟩
        · have c1' : ¬ (0 : Int) < (vs'.length : Int) := fun z => c1 (decide_eq_true z)
          refine ⟨_, rfl, ?_⟩
          refine iteF ?_
          have hh : Dt.here least b = true := by
            unfold Dt.here
            rw [nx, h6, decide_eq_false (show ¬ 0 < b.len by omega)]
            simp
          refine ⟨_, rfl, .inl ⟨rfl, _, .inl (.inl upd_same)⟩, _, rfl, l, ad, l1, vs', rfl, rfl, upd_same, hS', sz, ?_⟩
          refine ⟨_, by omega, l1 ++ vs', m1 ++ b.kids, _, rfl, same_mut sm1 hl, upd_same, Paired.app hlm hF.kids, rfl, by omega, g2 hh⟩
/-! ### is_shape, need_shape -/
def spIsShape (K : PySem.W.Frag) : Sp := fun vs H Q _ => ∃ (v : V) (t : Dt), vs = [v] ∧ DtV K H v t ∧ t.size ≤ 100000 ∧ ∀ H', Same H H' → Q (.bl (t.good 1)) H'
theorem ok_isShape (D : DefAt K mg "is_shape" s_is_shape ["thing"]) (G : CalX P w K mg base CX0 1 "has_forks_of" ["thing", "least"] (spForks K)) : CalX P w K mg base CX0 2 "is_shape" ["thing"] (spIsShape K) := by
  refine D.ok sc_is_shape (fun vs H Q E h => ?_) (fun f cdv A outer s H vs Q E hr h => ?_)
  · obtain ⟨v, t, rfl, _⟩ := h
    rfl
  obtain ⟨v, t, rfl, hv, hz, q⟩ := h
  refine ⟨_, pss_one (ps_ret (pe_c0 G hr (by decide) rfl (pa_cons (pv 0) (pa_cons pe_int pa_nil)))), ?_⟩
  exact ⟨_, rfl, v, t, 1, rfl, hv, hz, q⟩
def spNeedShape (K : PySem.W.Frag) (U : Addr) : Sp := fun vs H Q E => ∃ (v : V) (t : Dt) (z : Str), vs = [v, .str z] ∧ DtV K H v t ∧ t.size ≤ 100000 ∧
  (t.good 1 = true → ∀ H', Same H H' → Q .non H') ∧ (t.good 1 = false → ∀ H' d, Same H H' → H' d = none → E (.ref U) (some d) (upd H' d (xdO z (-1))))
theorem ok_needShape {U : Addr} (D : DefAt K mg "need_shape" s_need_shape ["form", "word"]) (G : CalX P w K mg base CX0 2 "is_shape" ["thing"] (spIsShape K)) (GN : CalX P w K mg base (L2.CX P w) 3 "need" ["fits", "word"] (spNeed U)) :
    CalX P w K mg base (L2.CX P w) 4 "need_shape" ["form", "word"] (spNeedShape K U) := by
  refine D.okX sc_need_shape (fun vs H Q E h => ?_) (fun f cdv A outer s H vs Q E hr h => ?_)
  · obtain ⟨v, t, z, rfl, _⟩ := h
    rfl
  obtain ⟨v, t, z, rfl, hv, hz, q1, q2⟩ := h
  refine ⟨_, pss_one (ps_expr (pe_cx GN hr (by decide) rfl (passes_call (takes_of rfl rfl rfl rfl) (fun _ _ _ _ h => h)) (pa_cons (pe_c0 G hr (by decide) rfl (pa_cons (pv 0) pa_nil)) (pa_cons (pv 1) pa_nil)))), ?_⟩
  refine ⟨_, rfl, v, t, rfl, hv, hz, fun H' sm => ?_⟩
  exact ⟨_, rfl, _, z, rfl, fun e => q1 e H' sm, fun e d hd => q2 e H' d sm hd⟩
end
end K23
set_option Elab.async false
set_option linter.all false
set_option maxRecDepth 100000
set_option maxHeartbeats 4000000
namespace PySem
open Sem (wp)
open AutoSeq1 (wpAny_loadPart')
theorem meets_enumerate_newT (l : Addr) (ob : Obj) (items : Array Value) (n : Nat) (hc : ob.cls = .type "tuple") (hd : ob.data = .seq items n) :
    Meets (Builtin.«enumerate.__new__» ⟨[.type "enumerate", .ref l], []⟩) (fun _ R s => s.heap.get? l = some ob ∧
      R (.ok (.ret (.ref (s.heap.push { cls := .type "tuple_iterator", data := .fields #[.ref l, .int 0 0] }).objs.size)))
        { s with heap := (s.heap.push { cls := .type "tuple_iterator", data := .fields #[.ref l, .int 0 0] }).push { cls := .type "enumerate", data := .fields #[.none, .bool false, .ref s.heap.objs.size, rawInt 0, .none, .none] } }) :=
  .of_wp fun prog w A R s h => by
    obtain ⟨hp, g, d, tk, os⟩ := s; obtain ⟨hl, h⟩ := h
    have hsub := sub_enumerate
    have hL : Heap.IsTuple (Shared.heap ⟨hp, g, d, tk, os⟩) l items := ⟨_, hl, hc, n, hd⟩
    wp_walk using wpAny_loadPart' hl
    refine wpAny_stack_any fun st => wpAny_pure ?_
    split
    · rename_i c _ _ _ _ _
      cases (c == Value.type "enumerate")
      · wp_walk using wpAny_loadPart' hl, wpAny_pyIter_tuple hL
        exact ⟨_, rfl, h⟩
      · wp_walk using wpAny_loadPart' hl, wpAny_pyIter_tuple hL
        exact ⟨_, rfl, h⟩
    · wp_walk using wpAny_loadPart' hl, wpAny_pyIter_tuple hL
      exact ⟨_, rfl, h⟩
section
variable {prog : Program} {w : World} {A : Around} {E : Value → Shared → Prop} {s : Shared}
theorem call_enumerate_tup {l : Addr} {items : Array Value} {Q : Value → Shared → Prop} (hL : s.heap.IsTuple l items)
    (h : ∀ h', IsEnum h' (s.heap.objs.size + 1) s.heap.objs.size 0 .none → h'.IsTupleIter s.heap.objs.size l 0 → h'.objs.size = s.heap.objs.size + 2 →
      (∀ b o, s.heap.get? b = some o → h'.get? b = some o) → Q (.ref (s.heap.objs.size + 1)) { s with heap := h' }) :
    wpAny (model prog w) A (call (.type "enumerate") [.ref l]) Q E s := by
  obtain ⟨ob, hl, hc, n, hd⟩ := hL
  refine callType_new F.called_enumerate (by decide) (F.typeCall_enumerate_1 _) (F.newCall_enumerate_1 _) (fun obj => F.args_object_init_2 obj _) F.entry_enumerate_new
    (meets_enumerate_newT l ob items n hc hd) ⟨hl, ?_⟩
  have hz : (s.heap.push { cls := .type "tuple_iterator", data := .fields #[.ref l, .int 0 0] }).objs.size = s.heap.objs.size + 1 := Heap.size_push ..
  show _ ∧ _
  rw [hz]
  have he : IsEnum ((s.heap.push { cls := .type "tuple_iterator", data := .fields #[.ref l, .int 0 0] }).push
      { cls := .type "enumerate", data := .fields #[.none, .bool false, .ref s.heap.objs.size, rawInt 0, .none, .none] }) (s.heap.objs.size + 1) s.heap.objs.size 0 .none := by
    have := Heap.get?_push_size (s.heap.push { cls := .type "tuple_iterator", data := .fields #[.ref l, .int 0 0] })
      (o := { cls := .type "enumerate", data := .fields #[.none, .bool false, .ref s.heap.objs.size, rawInt 0, .none, .none] }) rfl
    rw [hz] at this; exact this
  refine ⟨⟨_, he, rfl⟩, h _ he ⟨_, Heap.get?_push_of_some _ (Heap.get?_push_size _ rfl), rfl, rfl⟩ (by rw [Heap.size_push, hz]) fun b o x => Heap.get?_push_of_some _ (Heap.get?_push_of_some _ x)⟩
end
end PySem
namespace L2
open PySem PySem.Spec PyProof.Rows
/-! ### enumerate(tuple) -/
def Itet (K : PySem.W.Frag) (a : Addr) : It :=
  ⟨fun i H => ∃ (xs : List V) (x : V), SqT K H a xs ∧ xs[i]? = some x, fun i H v H' => ∃ T x, v = .ref T ∧ H T = none ∧ H' = upd H T (.tup [.int (i : Nat), x]) ∧ ∀ xs, SqT K H a xs → xs[i]? = some x, fun i H => ∃ xs : List V, SqT K H a xs ∧ xs.length ≤ i⟩
theorem turn_enumT {P : Program} {w : World} {K : PySem.W.Frag} {elts : List Expr} {kk : Nat} {tpos : Pos} (a e it : Addr) :
    Turn P w K (.Tuple elts kk tpos) (Itet K a) [e, it] e (fun i h => (∃ old, IsEnum h e it ((i : Nat) : Int) old) ∧ h.IsTupleIter it a i ∧ e ≠ it ∧ a ≠ e ∧ a ≠ it) where
  mem := by simp
  obj := fun i h st b hb => by
    obtain ⟨⟨old, he⟩, ⟨o, ho, hc, hd⟩, _⟩ := st
    have e' : b = e ∨ b = it := by simpa using hb
    rcases e' with z | z
    · rw [z]; exact ⟨_, he, fun v q => nomatch q⟩
    · rw [z]; exact ⟨o, ho, fun v q => by rw [hd] at q; cases q⟩
  keep := fun i h h' st k => let ⟨⟨old, he⟩, hi, hne⟩ := st; ⟨⟨old, k e (by simp) _ he⟩, hi.at fun o q => k it (by simp) o q, hne⟩
  item := by
    intro X hP hw hK hc i pins s σ H E I hf st hg
    subst hP hw hK
    obtain ⟨⟨old, he⟩, hit, hne, hae, hai⟩ := st
    obtain ⟨xs, x, hq, hx⟩ := hg
    obtain ⟨its, rv, p, hz⟩ := I.tuple hq
    obtain ⟨u, hu, ru⟩ := rv.get hx
    have hel : e < s.heap.objs.size := Heap.lt_size he
    have hil : it < s.heap.objs.size := by obtain ⟨_, q, _⟩ := hit; exact Heap.lt_size q
    have hi : i < its.toArray.size := by
      rw [List.size_toArray]
      exact (List.getElem?_eq_some_iff.mp hu).1
    have D := Draws.tuple (prog := X.prog) (w := X.w) (A := X.A.in1) (I.ok.hd hc) it a hai its.toArray
    refine wpAny_pyNext_enum_itemD D he ⟨hit, p⟩ hi hne (by simp [Ne.symm hae, hne]) fun x' h' tk' hP ho hit' hT hsz hk => ?_
    refine ⟨_, rfl, wpAny_letOwnedTupleGo_enum (s := { s with heap := h', toks := tk' + 1 }) ho fun h'' he' sb => ?_⟩
    have eu : x' = u := by
      have e1 : its.toArray[i]? = some x' := hP
      have e2 : its.toArray[i]? = some u := by simpa using hu
      exact Option.some.inj (e1.symm.trans e2)
    subst eu
    have hT2 : h''.get? s.heap.objs.size = some { cls := .type "tuple", data := .seq #[.int i tk', x'] } := (sb.2 _ (Nat.ne_of_gt hel)).trans hT
    have new : ObjOk X.prog X.w (upd H s.heap.objs.size (.tup [.int (i : Nat), x])) h'' s.heap.objs.size (.tup [.int (i : Nat), x]) :=
      ⟨by show 2 ≤ sizeLine; decide, [.int i tk', x'], .cons ⟨_, rfl⟩ (.cons ru .nil), ⟨_, hT2, rfl, _, rfl⟩⟩
    have I1 : Inv X pins σ (upd H s.heap.objs.size (.tup [.int (i : Nat), x])) { s with heap := h'', toks := tk' + 1 } :=
      I.turnedNew (ch := [e, it]) (fun b ob hb q => (sb.2 b (fun z => hb (by simp [z]))).trans (hk b ob (fun z => hb (by simp [z])) (fun z => hb (by simp [z])) q)) hf (Nat.le_refl _) new
    refine ⟨.ref s.heap.objs.size, _, I1, rfl, ⟨_, x, rfl, I.hok.fresh (Nat.le_refl _), rfl, fun ys hy => by rw [I.tuple_inj hy hq]; exact hx⟩, ⟨⟨x', ?_⟩, hit'.1.at fun o q => (sb.2 it (Ne.symm hne)).trans q, hne, hae, hai⟩, fun b hb => ?_⟩
    · have e1 : ((i + 1 : Nat) : Int) = (i : Int) + 1 := by omega
      rw [e1]; exact he'
    · have hb' : b < s.heap.objs.size := by
        have e' : b = e ∨ b = it := by simpa using hb
        rcases e' with z | z
        · rw [z]; exact hel
        · rw [z]; exact hil
      rw [upd_ne (Nat.ne_of_lt hb')]
      exact (hf b hb).1
  done := by
    intro X hP hw hK hc i pins s σ H E I hf st hg
    subst hP hw hK
    obtain ⟨⟨old, he⟩, hit, hne, hae, hai⟩ := st
    obtain ⟨xs, hq, hx⟩ := hg
    obtain ⟨its, rv, p, hz⟩ := I.tuple hq
    obtain ⟨f0, f1, f2, f3, f4, f5⟩ := hf it (by simp)
    have hl := rv.length
    have hT : s.TypeIs (.ref e) "enumerate" := ⟨_, he, rfl⟩
    unfold pyNext
    refine wpAny_bind (wpAny_attempt (wpAny_callSpecial?_slot (name := Str.ofString "__next__") hT F.slot_enumerate_next
      (wpAny_call_entry F.slot_enumerate_next hT F.entry_enumerate_next ?_ (F.args_enumerate_next_1 _))))
    show wpAny _ _ (field (.ref e) 2 >>= _) _ _ _
    refine wpAny_bind (wpAny_field he rfl (x := .ref it) rfl ?_)
    refine wpAny_bind (wpAny_nextOf_tuple_end (show X.A.in1.handled = none from I.ok.hd hc) hit p (by rw [List.getElem?_toArray]; exact List.getElem?_eq_none (by omega)) fun h' x he' hx' => ?_)
    obtain ⟨o, ho, hcl⟩ := hx'
    refine wpAny_bind (wpAny_isInstance (T := "StopIteration") (b := true) ⟨o, ho, hcl⟩ isSubtype_stop ?_)
    obtain ⟨g0, g1, g2, g3, g4, g5⟩ := hf it (by simp)
    exact wpAny_pure ⟨rfl, I.turned (t' := s.toks) (fun b o hb q => he' b o hb q) g0 g1 g3 g4 g5⟩
  self := fun A i s Q E st h => let ⟨⟨_, he⟩, _⟩ := st; wpAny_pyIter_enum he h
def iEnumT (K : PySem.W.Frag) (ta : TA) : TI := fun σ H R => ta σ H fun vs H1 => ∃ a xs, vs = [.ref a] ∧ SqT K H1 a xs ∧ R (Itet K a) H1
theorem pi_enumT {X : Cx} {e : Expr} {ta : TA} {p pos tpos : Pos} {elts : List Expr} {kk : Nat} (hg : Gl X "enumerate") (hm : X.mg "enumerate" = none) (ha : PA X [e] ta) (hs : starEach [e] X.env = [(false, eval e X.env)] := by rfl) :
    PI X (.Tuple elts kk tpos) (.Call (.Name "enumerate" p) [e] [] pos) (iEnumT X.K ta) := by
  refine ⟨fun pins s σ H R I h => ?_⟩
  refine Call_ (ld_blt I hg hm boot_enumerate (PyProof.Rows.callWith_type1 (thn (ha.run pos pins s σ H _ I h) fun us s1 ⟨vs, H1, I1, r1, q1⟩ => ?_) hs rfl))
  obtain ⟨a, xs, ex, hq, q⟩ := q1
  subst ex
  cases r1 with
  | cons r rr =>
    cases rr
    cases r
    obtain ⟨its, rv, p', hz⟩ := I1.tuple hq
    have hal : a < s1.heap.objs.size := by
      obtain ⟨o, ho, _⟩ := p'
      exact Heap.lt_size ho
    refine call_enumerate_tup p' fun h' he hit hsz hk => wpAny_pyIter_enum he ?_
    have I2 : Inv X pins σ H1 { s1 with heap := h' } := I1.kept (t' := s1.toks) hk
    refine ⟨s1.heap.objs.size + 1, [s1.heap.objs.size + 1, s1.heap.objs.size], _, _, H1, rfl, I2, turn_enumT a (s1.heap.objs.size + 1) s1.heap.objs.size, ⟨⟨.none, he⟩, hit, Nat.succ_ne_self _, Nat.ne_of_lt (Nat.lt_succ_of_lt hal), Nat.ne_of_lt hal⟩, fun b hb => ?_, q⟩
    have e' : b = s1.heap.objs.size + 1 ∨ b = s1.heap.objs.size := by simpa using hb
    have hle : s1.heap.objs.size ≤ b := by
      rcases e' with z | z
      · rw [z]; exact Nat.le_add_right _ _
      · rw [z]; exact Nat.le_refl _
    exact I1.fpOk hle (I1.hok.fresh hle)
theorem walk_enumT {K : PySem.W.Frag} {a : Addr} {xs : List V} : Walk (Itet K a) xs.length (fun H => SqT K H a xs) (YPair (fun i => some (.int (i : Nat))) (fun i => xs[i]?)) := by
  refine ⟨fun i _ hi q => ⟨xs, xs[i], q, by simp [hi]⟩, fun _ q => ⟨xs, q, Nat.le_refl _⟩, fun i H v H' _ q y => ?_⟩
  obtain ⟨T, x, h1, h2, h3, h4⟩ := y
  exact ⟨T, .int (i : Nat), x, h1, h2, h3, rfl, h4 xs q⟩
end L2
set_option Elab.async false
set_option linter.all false
set_option maxRecDepth 100000
set_option maxHeartbeats 4000000
namespace K23
open PySem PySem.Spec PyProof.Rows L2
/-! ### addresses: the mathematics of a tree's nodes -/
abbrev Ad := List Nat
namespace Dt
/-- the nodes of the tree with this row of children, itself counted -/
def nodes : Dt → Nat | c k r => k.nodes + r.nodes | _ => 1
theorem nodes_pos : ∀ t : Dt, 1 ≤ t.nodes
  | x => Nat.le_refl 1
  | o => Nat.le_refl 1
  | c k r => Nat.le_trans (nodes_pos k) (Nat.le_add_right _ _)
def sub : Dt → Ad → Option Dt
  | t, [] => some t
  | c k _, 0 :: p => sub k p
  | c _ r, (j + 1) :: p => sub r (j :: p)
  | _, _ :: _ => none
def idx : Dt → Ad → Nat
  | _, [] => 0
  | c k _, 0 :: p => 1 + idx k p
  | c k r, (j + 1) :: p => k.nodes + idx r (j :: p)
  | _, _ :: _ => 0
def up : Ad → Ad
  | j :: p => (j + 1) :: p
  | [] => []
def adF : Dt → List Ad
  | c k r => (([] :: adF k).map (List.cons 0)) ++ (adF r).map up
  | _ => []
def ad (t : Dt) : List Ad := [] :: adF t
theorem sub_nil (t : Dt) : sub t [] = some t := by cases t <;> rfl
theorem idx_nil (t : Dt) : idx t [] = 0 := by cases t <;> rfl
theorem sub_c0 (k r : Dt) (p : Ad) : sub (c k r) (0 :: p) = sub k p := rfl
theorem sub_cs (k r : Dt) (j : Nat) (p : Ad) : sub (c k r) ((j + 1) :: p) = sub r (j :: p) := rfl
theorem idx_c0 (k r : Dt) (p : Ad) : idx (c k r) (0 :: p) = 1 + idx k p := rfl
theorem idx_cs (k r : Dt) (j : Nat) (p : Ad) : idx (c k r) ((j + 1) :: p) = k.nodes + idx r (j :: p) := rfl
theorem sub_o (j : Nat) (p : Ad) : sub o (j :: p) = none := by cases j <;> rfl
theorem sub_x (j : Nat) (p : Ad) : sub x (j :: p) = none := by cases j <;> rfl
theorem adF_len : ∀ t : Dt, (adF t).length + 1 = t.nodes
  | x => rfl
  | o => rfl
  | c k r => by
    have h1 := adF_len k
    have h2 := adF_len r
    show ((([] :: adF k).map (List.cons 0)) ++ (adF r).map up).length + 1 = k.nodes + r.nodes
    simp only [List.length_append, List.length_map, List.length_cons]
    omega
theorem ad_len (t : Dt) : (ad t).length = t.nodes := adF_len t
theorem ad_c (k r : Dt) : ad (c k r) = [] :: ((ad k).map (List.cons 0) ++ (adF r).map up) := rfl
/-- no address here begins with p -/
def Off (p : Ad) (l : List Ad) : Prop := ∀ q ∈ l, ¬ p <+: q
theorem adF_cons : ∀ (t : Dt) (q : Ad), q ∈ adF t → ∃ j p, q = j :: p
  | x, q, h => by simp [adF] at h
  | o, q, h => by simp [adF] at h
  | c k r, q, h => by
    have h' : q ∈ (ad k).map (List.cons 0) ++ (adF r).map up := h
    rcases List.mem_append.mp h' with h | h
    · obtain ⟨p, _, rfl⟩ := List.mem_map.mp h
      exact ⟨0, p, rfl⟩
    · obtain ⟨p, hp, rfl⟩ := List.mem_map.mp h
      obtain ⟨j, p', rfl⟩ := adF_cons r p hp
      exact ⟨j + 1, p', rfl⟩
theorem block : ∀ (t : Dt) (p : Ad) (u : Dt), sub t p = some u → ∃ A B, ad t = A ++ ((ad u).map (p ++ ·) ++ B) ∧ A.length = idx t p ∧ Off p A ∧ Off p B
  | t, [], u, h => by
    rw [sub_nil] at h
    cases h
    refine ⟨[], [], ?_, (idx_nil t).symm, by intro q h; simp at h, by intro q h; simp at h⟩
    simp
  | c k r, 0 :: p, u, h => by
    obtain ⟨A, B, e, l, oa, ob⟩ := block k p u h
    refine ⟨[] :: A.map (List.cons 0), B.map (List.cons 0) ++ (adF r).map up, ?_, ?_, ?_, ?_⟩
    · rw [ad_c, e]
      simp
    · rw [idx_c0, ← l]
      simp
      omega
    · intro q hq
      rcases List.mem_cons.mp hq with rfl | hq
      · simp
      · obtain ⟨q', hq', rfl⟩ := List.mem_map.mp hq
        intro z
        exact oa q' hq' (List.cons_prefix_cons.mp z).2
    · intro q hq
      rcases List.mem_append.mp hq with hq | hq
      · obtain ⟨q', hq', rfl⟩ := List.mem_map.mp hq
        intro z
        exact ob q' hq' (List.cons_prefix_cons.mp z).2
      · obtain ⟨q', hq', rfl⟩ := List.mem_map.mp hq
        obtain ⟨j, p', rfl⟩ := adF_cons r q' hq'
        intro z
        have := (List.cons_prefix_cons.mp z).1
        omega
  | c k r, (j + 1) :: p, u, h => by
    obtain ⟨A, B, e, l, oa, ob⟩ := block r (j :: p) u h
    cases A with
    | nil =>
      exfalso
      have e2 : ad r = (j :: p ++ []) :: (((adF u).map (j :: p ++ ·)) ++ B) := e
      have e3 : ([] : Ad) = j :: p ++ [] := (List.cons.inj e2).1
      cases e3
    | cons a A' =>
      have e2 : [] :: adF r = a :: (A' ++ ((ad u).map (j :: p ++ ·) ++ B)) := e
      obtain ⟨_, e3⟩ := List.cons.inj e2
      refine ⟨[] :: ((ad k).map (List.cons 0) ++ A'.map up), B.map up, ?_, ?_, ?_, ?_⟩
      · rw [ad_c, e3]
        simp [up, Function.comp_def]
      · rw [idx_cs, ← l, ← ad_len k]
        simp
        omega
      · intro q hq
        rcases List.mem_cons.mp hq with rfl | hq
        · simp
        · rcases List.mem_append.mp hq with hq | hq
          · obtain ⟨q', hq', rfl⟩ := List.mem_map.mp hq
            intro z
            have := (List.cons_prefix_cons.mp z).1
            omega
          · obtain ⟨q', hq', rfl⟩ := List.mem_map.mp hq
            have hm : q' ∈ adF r := by rw [e3]; exact List.mem_append_left _ hq'
            obtain ⟨j', p', rfl⟩ := adF_cons r q' hm
            intro z
            obtain ⟨z1, z2⟩ := List.cons_prefix_cons.mp z
            exact oa _ (List.mem_cons_of_mem _ hq') (List.cons_prefix_cons.mpr ⟨by omega, z2⟩)
      · intro q hq
        obtain ⟨q', hq', rfl⟩ := List.mem_map.mp hq
        have hm : q' ∈ adF r := by rw [e3]; exact List.mem_append_right _ (List.mem_append_right _ hq')
        obtain ⟨j', p', rfl⟩ := adF_cons r q' hm
        intro z
        obtain ⟨z1, z2⟩ := List.cons_prefix_cons.mp z
        exact ob _ hq' (List.cons_prefix_cons.mpr ⟨by omega, z2⟩)
  | o, j :: p, _, h => by rw [sub_o] at h; cases h
  | x, j :: p, _, h => by rw [sub_x] at h; cases h
theorem sub_app : ∀ (t : Dt) (p : Ad) (u : Dt), sub t p = some u → ∀ q, sub t (p ++ q) = sub u q ∧ idx t (p ++ q) = idx t p + idx u q
  | t, [], u, h, q => by
    rw [sub_nil] at h
    cases h
    rw [idx_nil]
    exact ⟨rfl, (Nat.zero_add _).symm⟩
  | c k r, 0 :: p, u, h, q => by
    obtain ⟨a, b⟩ := sub_app k p u h q
    refine ⟨a, ?_⟩
    show 1 + idx k (p ++ q) = 1 + idx k p + idx u q
    omega
  | c k r, (j + 1) :: p, u, h, q => by
    obtain ⟨a, b⟩ := sub_app r (j :: p) u h q
    refine ⟨a, ?_⟩
    show k.nodes + idx r (j :: p ++ q) = k.nodes + idx r (j :: p) + idx u q
    omega
  | o, j :: p, _, h, _ => by rw [sub_o] at h; cases h
  | x, j :: p, _, h, _ => by rw [sub_x] at h; cases h
theorem ad_at {t u : Dt} {p : Ad} (h : sub t p = some u) : (ad t)[idx t p]? = some p := by
  obtain ⟨A, B, e, l, _, _⟩ := block t p u h
  have e2 : (ad u).map (p ++ ·) = p :: (adF u).map (p ++ ·) := by
    show (p ++ []) :: _ = _
    rw [List.append_nil]
  rw [e, e2, ← l]
  simp
theorem idx_lt {t u : Dt} {p : Ad} (h : sub t p = some u) : idx t p + u.nodes ≤ t.nodes := by
  obtain ⟨A, B, e, l, _, _⟩ := block t p u h
  rw [← ad_len t, e, ← l, ← ad_len u]
  simp
/-- each address of the list leads to a node, and stands at its own number -/
theorem adF_sub : ∀ (t : Dt) (p : Ad), p ∈ adF t → ∃ u, sub t p = some u
  | x, q, h => by simp [adF] at h
  | o, q, h => by simp [adF] at h
  | c k r, q, h => by
    have h' : q ∈ (ad k).map (List.cons 0) ++ (adF r).map up := h
    rcases List.mem_append.mp h' with h | h
    · obtain ⟨p, hp, rfl⟩ := List.mem_map.mp h
      rcases List.mem_cons.mp hp with rfl | hp
      · exact ⟨k, sub_nil k⟩
      · exact adF_sub k p hp
    · obtain ⟨p, hp, rfl⟩ := List.mem_map.mp h
      obtain ⟨j, p', rfl⟩ := adF_cons r p hp
      exact adF_sub r (j :: p') hp
theorem ad_sub {t : Dt} {p : Ad} (h : p ∈ ad t) : ∃ u, sub t p = some u := by
  rcases List.mem_cons.mp h with rfl | h
  · exact ⟨t, sub_nil t⟩
  · exact adF_sub t p h
theorem sub_ad {t u : Dt} {p : Ad} (h : sub t p = some u) : p ∈ ad t := List.mem_of_getElem? (ad_at h)
/-! ### the order -/
def zs (p : Ad) : List Int := p.map (fun n : Nat => Int.ofNat n)
def lt (p q : Ad) : Bool := HT.lexLt (zs p) (zs q)
theorem lt_nil (j : Nat) (p : Ad) : lt [] (j :: p) = true := rfl
theorem nil_lt (p : Ad) : lt p [] = false := by cases p <;> rfl
theorem lt_cons (i j : Nat) (p q : Ad) : lt (i :: p) (j :: q) = if i = j then lt p q else decide (i < j) := by
  show (if Int.ofNat i = Int.ofNat j then HT.lexLt (zs p) (zs q) else decide (Int.ofNat i < Int.ofNat j)) = _
  have c1 : Int.ofNat i = (i : Int) := rfl
  have c2 : Int.ofNat j = (j : Int) := rfl
  rw [c1, c2]
  by_cases h : i = j
  · rw [if_pos h, if_pos (by omega)]; rfl
  · rw [if_neg h, if_neg (by omega)]
    by_cases h2 : i < j
    · rw [decide_eq_true h2, decide_eq_true (by omega)]
    · rw [decide_eq_false h2, decide_eq_false (by omega)]
theorem lt_irr : ∀ p : Ad, lt p p = false
  | [] => rfl
  | i :: p => by rw [lt_cons, if_pos rfl]; exact lt_irr p
theorem lt_asym : ∀ p q : Ad, lt p q = true → lt q p = false
  | [], [], h => rfl
  | [], _ :: _, h => rfl
  | _ :: _, [], h => nomatch h
  | i :: p, j :: q, h => by
    rw [lt_cons] at h ⊢
    by_cases e : i = j
    · rw [if_pos e] at h
      rw [if_pos e.symm]
      exact lt_asym p q h
    · rw [if_neg e] at h
      rw [if_neg (Ne.symm e)]
      have := of_decide_eq_true h
      exact decide_eq_false (by omega)
theorem up_lt (i j : Nat) (p q : Ad) : lt (up (i :: p)) (up (j :: q)) = lt (i :: p) (j :: q) := by
  show lt ((i + 1) :: p) ((j + 1) :: q) = _
  rw [lt_cons, lt_cons]
  by_cases e : i = j
  · rw [if_pos e, if_pos (by omega)]
  · rw [if_neg e, if_neg (by omega)]
    by_cases h2 : i < j
    · rw [decide_eq_true h2, decide_eq_true (by omega)]
    · rw [decide_eq_false h2, decide_eq_false (by omega)]
def Asc (l : List Ad) : Prop := l.Pairwise fun p q => lt p q = true
theorem adF_asc : ∀ t : Dt, Asc (ad t)
  | x => List.pairwise_singleton _ _
  | o => List.pairwise_singleton _ _
  | c k r => by
    have h1 := adF_asc k
    have h2 := adF_asc r
    rw [ad_c]
    refine List.pairwise_cons.mpr ⟨?_, List.pairwise_append.mpr ⟨?_, ?_, ?_⟩⟩
    · intro q hq
      have hq' : q ∈ adF (c k r) := hq
      obtain ⟨j, p, rfl⟩ := adF_cons _ q hq'
      rfl
    · refine List.pairwise_map.mpr (h1.imp ?_)
      intro a b h
      show lt (0 :: a) (0 :: b) = true
      rw [lt_cons, if_pos rfl]
      exact h
    · refine List.pairwise_map.mpr ?_
      have h3 := (List.pairwise_cons.mp h2).2
      refine h3.imp_of_mem ?_
      intro a b ha hb h
      obtain ⟨i, p, rfl⟩ := adF_cons _ a ha
      obtain ⟨j, q, rfl⟩ := adF_cons _ b hb
      rw [up_lt]
      exact h
    · intro a ha b hb
      obtain ⟨p, _, rfl⟩ := List.mem_map.mp ha
      obtain ⟨q, hq, rfl⟩ := List.mem_map.mp hb
      obtain ⟨j, q', rfl⟩ := adF_cons _ q hq
      show lt (0 :: p) ((j + 1) :: q') = true
      rw [lt_cons, if_neg (by omega)]
      exact decide_eq_true (by omega)
theorem ad_asc (t : Dt) : Asc (ad t) := adF_asc t
theorem ad_nodup (t : Dt) : (ad t).Nodup := (ad_asc t).imp fun {p q} h e => by
  rw [e, lt_irr] at h
  exact nomatch h
/-- the number of an address is where it stands -/
theorem idx_of {t : Dt} {p : Ad} {i : Nat} (h : (ad t)[i]? = some p) : idx t p = i := by
  obtain ⟨u, hu⟩ := ad_sub (List.mem_of_getElem? h)
  have h2 := ad_at hu
  obtain ⟨l1, e1⟩ := List.getElem?_eq_some_iff.mp h
  obtain ⟨l2, e2⟩ := List.getElem?_eq_some_iff.mp h2
  exact (List.getElem_inj (ad_nodup t)).mp (e2.trans e1.symm)
theorem idx_inj {t : Dt} {p q : Ad} (hp : p ∈ ad t) (hq : q ∈ ad t) (h : idx t p = idx t q) : p = q := by
  obtain ⟨u, hu⟩ := ad_sub hp
  obtain ⟨v, hv⟩ := ad_sub hq
  have h1 := ad_at hu
  have h2 := ad_at hv
  rw [h, h2] at h1
  exact (Option.some.inj h1).symm
/-- within: the numbers from its own to the last of its bough -/
theorem within {t u : Dt} {p q : Ad} (hp : sub t p = some u) (hq : q ∈ ad t) : (idx t p ≤ idx t q ∧ idx t q < idx t p + u.nodes) ↔ p <+: q := by
  constructor
  · rintro ⟨h1, h2⟩
    obtain ⟨v, hv⟩ := ad_sub hq
    have h3 := ad_at hv
    obtain ⟨A, B, e, l, _, _⟩ := block t p u hp
    rw [e, List.getElem?_append_right (by omega), List.getElem?_append_left (by rw [List.length_map, ad_len]; omega), List.getElem?_map] at h3
    obtain ⟨q', _, e'⟩ := Option.map_eq_some_iff.mp h3
    exact ⟨q', e'⟩
  · rintro ⟨q', rfl⟩
    obtain ⟨v, hv⟩ := ad_sub hq
    obtain ⟨a, b⟩ := sub_app t p u hp q'
    rw [a] at hv
    have h4 := idx_lt hv
    have := v.nodes_pos
    omega
/-- what lies above a node is a node -/
theorem sub_pre : ∀ (t : Dt) (p q : Ad) (u : Dt), sub t (p ++ q) = some u → ∃ v, sub t p = some v
  | t, [], q, u, h => ⟨t, sub_nil t⟩
  | c k r, 0 :: p, q, u, h => sub_pre k p q u h
  | c k r, (j + 1) :: p, q, u, h => sub_pre r (j :: p) q u h
  | o, j :: p, q, _, h => by rw [List.cons_append, sub_o] at h; cases h
  | x, j :: p, q, _, h => by rw [List.cons_append, sub_x] at h; cases h
theorem pre_ad {t : Dt} {p q : Ad} (h : q ∈ ad t) (hp : p <+: q) : p ∈ ad t := by
  obtain ⟨r, rfl⟩ := hp
  obtain ⟨u, hu⟩ := ad_sub h
  obtain ⟨v, hv⟩ := sub_pre t p r u hu
  exact sub_ad hv
/-! ### the children of a row -/
theorem sub_one : ∀ (t : Dt) (j : Nat), sub t [j] = t.kids[j]?
  | x, j => by cases j <;> rfl
  | o, j => by cases j <;> rfl
  | c k r, 0 => sub_nil k
  | c k r, j + 1 => by
    show sub r [j] = r.kids[j]?
    exact sub_one r j
theorem idx_one : ∀ (t : Dt) (j : Nat) (k : Dt), t.kids[j]? = some k → (j = 0 → idx t [j] = 1) ∧ idx t [j] + k.nodes ≤ t.nodes ∧ (∀ k', t.kids[j + 1]? = some k' → idx t [j + 1] = idx t [j] + k.nodes) ∧ (t.kids[j + 1]? = none → idx t [j] + k.nodes = t.nodes)
  | x, j, k, h => by cases j <;> exact nomatch h
  | o, j, k, h => by cases j <;> exact nomatch h
  | c k0 r, 0, k, h => by
    obtain rfl : k0 = k := Option.some.inj h
    have e0 : idx (c k0 r) [0] = 1 := by
      show 1 + idx k0 [] = 1
      rw [idx_nil]
    refine ⟨fun _ => e0, ?_, fun k' h' => ?_, fun h' => ?_⟩
    · rw [e0]
      show 1 + k0.nodes ≤ k0.nodes + r.nodes
      have := r.nodes_pos
      omega
    · have h2 : r.kids[0]? = some k' := h'
      have h3 := (idx_one r 0 k' h2).1 rfl
      rw [e0]
      show k0.nodes + idx r [0] = 1 + k0.nodes
      omega
    · have h2 : r.kids[0]? = none := h'
      have h3 : r.nodes = 1 := by
        cases r with
        | x => rfl
        | o => rfl
        | c a b => exact nomatch h2
      rw [e0]
      show 1 + k0.nodes = k0.nodes + r.nodes
      omega
  | c k0 r, j + 1, k, h => by
    have h2 : r.kids[j]? = some k := h
    obtain ⟨q0, q1, q2, q3⟩ := idx_one r j k h2
    have e0 : idx (c k0 r) [j + 1] = k0.nodes + idx r [j] := rfl
    refine ⟨fun z => by omega, ?_, fun k' h' => ?_, fun h' => ?_⟩
    · rw [e0]
      show k0.nodes + idx r [j] + k.nodes ≤ k0.nodes + r.nodes
      omega
    · have := q2 k' h'
      show k0.nodes + idx r [j + 1] = _
      omega
    · have := q3 h'
      rw [e0]
      show k0.nodes + idx r [j] + k.nodes = k0.nodes + r.nodes
      omega
/-! ### leaves -/
def isLf (t : Dt) (p : Ad) : Bool := match sub t p with | some u => u.len == 0 | none => false
def lv (t : Dt) : List Ad := (ad t).filter (isLf t)
def low (t : Dt) (p : Ad) : Nat := (((ad t).take (idx t p)).filter (isLf t)).length
def lf (t : Dt) : Nat := (lv t).length
theorem isLf_app {t u : Dt} {p : Ad} (h : sub t p = some u) (q : Ad) : isLf t (p ++ q) = isLf u q := by
  unfold isLf
  rw [(sub_app t p u h q).1]
theorem filter_blk {t u : Dt} {p : Ad} (h : sub t p = some u) : ((ad u).map (p ++ ·)).filter (isLf t) = (lv u).map (p ++ ·) := by
  unfold lv
  rw [List.filter_map]
  congr 1
  refine List.filter_congr fun q _ => ?_
  exact isLf_app h q
/-- the leaves ahead, within, behind -/
theorem lv_block {t u : Dt} {p : Ad} (h : sub t p = some u) : ∃ A B, lv t = A ++ ((lv u).map (p ++ ·) ++ B) ∧ A.length = low t p ∧ A = ((ad t).take (idx t p)).filter (isLf t) ∧ Off p A ∧ Off p B := by
  obtain ⟨A, B, e, l, oa, ob⟩ := block t p u h
  have et : (ad t).take (idx t p) = A := by rw [e, ← l]; simp
  refine ⟨A.filter (isLf t), B.filter (isLf t), ?_, ?_, by rw [et], fun q hq => oa q ((List.mem_filter.mp hq).1), fun q hq => ob q ((List.mem_filter.mp hq).1)⟩
  · rw [← filter_blk h, ← List.filter_append, ← List.filter_append, ← e]
    rfl
  · unfold low
    rw [et]
theorem low_le {t u : Dt} {p : Ad} (h : sub t p = some u) : low t p + lf u ≤ lf t := by
  obtain ⟨A, B, e, l, _⟩ := lv_block h
  unfold lf
  rw [e, ← l]
  simp
/-- the next at its side -/
theorem low_next {t u : Dt} {p q : Ad} (h : sub t p = some u) (e : idx t q = idx t p + u.nodes) : low t q = low t p + lf u := by
  obtain ⟨A, B, e1, l, oa, ob⟩ := block t p u h
  have et : (ad t).take (idx t p) = A := by rw [e1, ← l]; simp
  have et2 : (ad t).take (idx t q) = A ++ (ad u).map (p ++ ·) := by
    rw [e, e1, ← l, ← ad_len u, ← List.append_assoc]
    exact List.take_left' (by simp)
  unfold low
  rw [et2, et, List.filter_append, filter_blk h, List.length_append, List.length_map]
  rfl
theorem low_first {t : Dt} {p q : Ad} (hp : p ∈ ad t) (hl : isLf t p = false) (e : idx t q = idx t p + 1) : low t q = low t p := by
  obtain ⟨u, hu⟩ := ad_sub hp
  have h := ad_at hu
  unfold low
  rw [e, List.take_add_one, h]
  simp [hl]
theorem low_nil (t : Dt) : low t [] = 0 := by
  unfold low
  rw [idx_nil]
  rfl
theorem isLf_o {t u : Dt} {p : Ad} (h : sub t p = some u) : isLf t p = (u.len == 0) := by
  unfold isLf
  rw [h]
theorem lv_leaf {u : Dt} (h : u.len = 0) : lv u = [[]] ∧ ad u = [[]] := by
  cases u with
  | x => exact ⟨rfl, rfl⟩
  | o => exact ⟨rfl, rfl⟩
  | c k r => exact nomatch h
/-- the leaves below p in the order are those ahead of its bough -/
theorem low_lt {t : Dt} {p : Ad} (hp : p ∈ ad t) : ((lv t).filter fun q => lt q p).length = low t p := by
  obtain ⟨u, hu⟩ := ad_sub hp
  have hat := ad_at hu
  have hs : ad t = (ad t).take (idx t p) ++ p :: (ad t).drop (idx t p + 1) := by
    obtain ⟨hl, he⟩ := List.getElem?_eq_some_iff.mp hat
    conv => lhs; rw [← List.take_append_drop (idx t p) (ad t), List.drop_eq_getElem_cons hl, he]
  have ha := ad_asc t
  unfold Asc at ha
  rw [hs] at ha
  obtain ⟨_, h2, h3⟩ := List.pairwise_append.mp ha
  have h4 := (List.pairwise_cons.mp h2).1
  unfold lv low
  rw [List.filter_filter]
  conv => lhs; rw [hs]
  rw [List.filter_append, List.length_append]
  have e1 : List.filter (fun a => lt a p && isLf t a) ((ad t).take (idx t p)) = List.filter (isLf t) ((ad t).take (idx t p)) := by
    refine List.filter_congr fun q hq => ?_
    rw [h3 q hq p (by simp), Bool.true_and]
  have e2 : List.filter (fun a => lt a p && isLf t a) (p :: (ad t).drop (idx t p + 1)) = [] := by
    refine List.filter_eq_nil_iff.mpr fun q hq => ?_
    rcases List.mem_cons.mp hq with rfl | hq
    · rw [lt_irr]; simp
    · rw [lt_asym p q (h4 q hq)]; simp
  rw [e1, e2]
  rfl
theorem pre_take {p q : Ad} : (q.take p.length = p) ↔ p <+: q := by
  constructor
  · intro h
    have h2 := List.take_append_drop p.length q
    rw [h] at h2
    exact ⟨q.drop p.length, h2⟩
  · rintro ⟨r, rfl⟩
    simp
theorem high_pre {t u : Dt} {p : Ad} (h : sub t p = some u) : ((lv t).filter fun q => decide (q.take p.length = p)).length = lf u := by
  obtain ⟨A, B, e, l, _, oa, ob⟩ := lv_block h
  rw [e, List.filter_append, List.filter_append]
  have e1 : List.filter (fun q => decide (q.take p.length = p)) A = [] := List.filter_eq_nil_iff.mpr fun q hq => by
    rw [decide_eq_false (fun z => oa q hq (pre_take.mp z))]; simp
  have e2 : List.filter (fun q => decide (q.take p.length = p)) B = [] := List.filter_eq_nil_iff.mpr fun q hq => by
    rw [decide_eq_false (fun z => ob q hq (pre_take.mp z))]; simp
  have e3 : List.filter (fun q => decide (q.take p.length = p)) ((lv u).map (p ++ ·)) = (lv u).map (p ++ ·) := List.filter_eq_self.mpr fun q hq => by
    obtain ⟨q', _, rfl⟩ := List.mem_map.mp hq
    exact decide_eq_true (pre_take.mpr ⟨q', rfl⟩)
  rw [e1, e2, e3]
  simp [lf]
/-- a node is a leaf when the next address does not begin with its own -/
theorem leaf_next {t : Dt} {p : Ad} {i : Nat} (h : (ad t)[i]? = some p) : isLf t p = true ↔ ∀ q, (ad t)[i + 1]? = some q → ¬ p <+: q := by
  obtain ⟨u, hu⟩ := ad_sub (List.mem_of_getElem? h)
  have hi := idx_of h
  rw [isLf_o hu]
  constructor
  · intro e q hq hpq
    have hw := (within hu (List.mem_of_getElem? hq)).mpr hpq
    have hj := idx_of hq
    have : u.nodes = 1 := by
      cases u with
      | x => rfl
      | o => rfl
      | c k r => exact nomatch e
    omega
  · intro e
    cases u with
    | x => rfl
    | o => rfl
    | c k r =>
      exfalso
      obtain ⟨a, b⟩ := sub_app t p _ hu [0]
      have h1 : sub t (p ++ [0]) = some k := by rw [a]; exact sub_nil k
      have h2 := ad_at h1
      have h3 : idx (c k r) [0] = 1 := by
        show 1 + idx k [] = 1
        rw [idx_nil]
      rw [b, h3, hi] at h2
      exact e _ h2 ⟨[0], rfl⟩
/-! ### common beginnings -/
def lcp : Ad → Ad → Nat
  | i :: p, j :: q => if i = j then lcp p q + 1 else 0
  | _, _ => 0
theorem lcp_le : ∀ p q : Ad, lcp p q ≤ p.length ∧ lcp p q ≤ q.length
  | [], _ => ⟨Nat.zero_le _, Nat.zero_le _⟩
  | _ :: _, [] => ⟨Nat.zero_le _, Nat.zero_le _⟩
  | i :: p, j :: q => by
    have := lcp_le p q
    by_cases e : i = j <;> simp [lcp, e] <;> omega
/-- q begins with the first n of p just when n is at most the common length -/
theorem lcp_pre : ∀ (p q : Ad) (n : Nat), n ≤ p.length → (p.take n <+: q ↔ n ≤ lcp p q)
  | [], q, n, h => by
    have : n = 0 := by simpa using h
    subst this
    simp
  | i :: p, [], n, h => by
    cases n with
    | zero => simp
    | succ n => simp [lcp]
  | i :: p, j :: q, n, h => by
    cases n with
    | zero => simp
    | succ n =>
      have h' : n ≤ p.length := by simpa using h
      have ih := lcp_pre p q n h'
      rw [List.take_succ_cons, List.cons_prefix_cons]
      by_cases e : i = j
      · simp [lcp, e, ih]
      · simp [lcp, e]
/-- the law's count: the first place where they differ -/
theorem lcp_first (p q : Ad) (n : Nat) (hn : n < min p.length q.length) (h : p[n]? ≠ q[n]?) (ha : p.take n <+: q) : lcp p q = n := by
  have h1 := (lcp_pre p q n (by omega)).mp ha
  have h2 : ¬ n + 1 ≤ lcp p q := by
    intro z
    have h3 := (lcp_pre p q (n + 1) (by omega)).mpr z
    obtain ⟨r, hr⟩ := h3
    apply h
    rw [← hr, List.getElem?_append_left (by rw [List.length_take]; omega), List.getElem?_take]
    simp
  omega
end Dt
end K23
set_option Elab.async false
set_option linter.all false
set_option maxRecDepth 100000
set_option maxHeartbeats 4000000
namespace K23
open PySem PySem.Spec PyProof.Rows L2
/-! ### a ShapeTree in memory -/
/-- its attributes: the form, then ten lists -/
def stF (fv : V) (L : Nat → Addr) : List (Str × V) :=
  [("form", fv), ("boughs", .ref (L 0)), ("parents", .ref (L 1)), ("kids", .ref (L 2)), ("depths", .ref (L 3)), ("sides", .ref (L 4)), ("lows", .ref (L 5)), ("highs", .ref (L 6)), ("ends", .ref (L 7)), ("leaves", .ref (L 8)), ("paths", .ref (L 9))]
section
variable (fv : V) (L : Nat → Addr)
theorem stF_form : (stF fv L).lookup ("form" : Str) = some fv := by rfl
theorem stF_0 : (stF fv L).lookup ("boughs" : Str) = some (.ref (L 0)) := by rfl
theorem stF_1 : (stF fv L).lookup ("parents" : Str) = some (.ref (L 1)) := by rfl
theorem stF_2 : (stF fv L).lookup ("kids" : Str) = some (.ref (L 2)) := by rfl
theorem stF_3 : (stF fv L).lookup ("depths" : Str) = some (.ref (L 3)) := by rfl
theorem stF_4 : (stF fv L).lookup ("sides" : Str) = some (.ref (L 4)) := by rfl
theorem stF_5 : (stF fv L).lookup ("lows" : Str) = some (.ref (L 5)) := by rfl
theorem stF_6 : (stF fv L).lookup ("highs" : Str) = some (.ref (L 6)) := by rfl
theorem stF_7 : (stF fv L).lookup ("ends" : Str) = some (.ref (L 7)) := by rfl
theorem stF_8 : (stF fv L).lookup ("leaves" : Str) = some (.ref (L 8)) := by rfl
theorem stF_9 : (stF fv L).lookup ("paths" : Str) = some (.ref (L 9)) := by rfl
theorem stF_grow : (stF fv L).lookup ("_grow" : Str) = none := by rfl
end

theorem putF_new {f : Str} {v : V} : ∀ {fs : List (Str × V)}, (∀ g ∈ fs.map (·.1), ¬ g = f) → putF f v fs = fs ++ [(f, v)]
  | [], _ => rfl
  | (g, y) :: r, h => by
    show (if g = f then (g, v) :: r else (g, y) :: putF f v r) = _
    rw [if_neg (h g (by simp)), putF_new (fs := r) fun z hz => h z (by simp [hz])]
    rfl
structure TreeAt (C : Addr) (H : Hp) (a dx : Addr) (fv : V) (L : Nat → Addr) (S : Nat → List V) : Prop where
  ob : H a = some (.ins C dx (stF fv L))
  ls : ∀ i, i < 10 → H (L i) = some (.lst (S i))
  inj : ∀ i j, i < 10 → j < 10 → L i = L j → i = j
/-- what is no list of the tree stands as before -/
def Keep (L : Nat → Addr) (H H' : Hp) : Prop := ∀ y o, H y = some o → (∀ i, i < 10 → y ≠ L i) → H' y = some o
/-- tuples stand as before -/
def KeepT (H H' : Hp) : Prop := ∀ y xs, (H y = some (.tup xs) → H' y = some (.tup xs)) ∧ (∀ o, H y = some (.frz o (.tup xs)) → H' y = some (.frz o (.tup xs)))
theorem Keep.refl (L : Nat → Addr) (H : Hp) : Keep L H H := fun _ _ h _ => h
theorem Keep.trans {L : Nat → Addr} {H H1 H2 : Hp} (a : Keep L H H1) (b : Keep L H1 H2) : Keep L H H2 := fun y o h n => b y o (a y o h n) n
theorem Keep.same {L : Nat → Addr} {H H1 H2 : Hp} (a : Keep L H H1) (b : Same H1 H2) : Keep L H H2 := fun y o h n => b y o (a y o h n)
theorem KeepT.refl (H : Hp) : KeepT H H := fun _ _ => ⟨fun h => h, fun _ h => h⟩
theorem KeepT.trans {H H1 H2 : Hp} (a : KeepT H H1) (b : KeepT H1 H2) : KeepT H H2 := fun y xs => ⟨fun h => (b y xs).1 ((a y xs).1 h), fun o h => (b y xs).2 o ((a y xs).2 o h)⟩
theorem KeepT.of_same {H H' : Hp} (e : Same H H') : KeepT H H' := fun y xs => ⟨fun h => e _ _ h, fun o h => e _ _ h⟩
theorem TreeAt.keepT {C : Addr} {H H' : Hp} {a dx : Addr} {fv : V} {L : Nat → Addr} {S : Nat → List V} (t : TreeAt C H a dx fv L S) (k : Keep L H H') : KeepT H H' := fun y xs =>
  ⟨fun h => k y _ h (fun i hi e => by rw [e, t.ls i hi] at h; exact HO.noConfusion (Option.some.inj h)), fun o h => k y _ h (fun i hi e => by rw [e, t.ls i hi] at h; exact HO.noConfusion (Option.some.inj h))⟩
def st (S : Nat → List V) (i : Nat) (xs : List V) : Nat → List V := fun j => if j = i then xs else S j
theorem TreeAt.put {C : Addr} {H : Hp} {a dx : Addr} {fv : V} {L : Nat → Addr} {S : Nat → List V} (t : TreeAt C H a dx fv L S) {i : Nat} (hi : i < 10) (xs : List V) : TreeAt C (upd H (L i) (.lst xs)) a dx fv L (st S i xs) := by
  refine ⟨?_, fun j hj => ?_, t.inj⟩
  · rw [upd_ne]
    · exact t.ob
    · intro e
      have h := t.ls i hi
      rw [← e, t.ob] at h
      exact HO.noConfusion (Option.some.inj h)
  · unfold st
    by_cases e : j = i
    · subst e
      rw [upd_same, if_pos rfl]
    · rw [upd_ne (fun z => e (t.inj j i hj hi z)), if_neg e]
      exact t.ls j hj
theorem TreeAt.same {C : Addr} {H H' : Hp} {a dx : Addr} {fv : V} {L : Nat → Addr} {S : Nat → List V} (t : TreeAt C H a dx fv L S) (e : Same H H') : TreeAt C H' a dx fv L S := ⟨e _ _ t.ob, fun j hj => e _ _ (t.ls j hj), t.inj⟩
theorem Keep.put {L : Nat → Addr} {H H' : Hp} (k : Keep L H H') {i : Nat} (hi : i < 10) (o : HO) : Keep L H (upd H' (L i) o) := fun y u h n => by
  rw [upd_ne (n i hi)]
  exact k y u h n
theorem kt_sqt {K : PySem.W.Frag} {H H' : Hp} {a : Addr} {xs : List V} (e : KeepT H H') (h : SqT K H a xs) : SqT K H' a xs := by
  rcases h with (h | ⟨o, h⟩) | h
  · exact .inl (.inl ((e _ _).1 h))
  · exact .inl (.inr ⟨o, (e _ _).2 o h⟩)
  · exact .inr h
/-- a row of shapes -/
inductive ShF (K : PySem.W.Frag) (H : Hp) : List V → Dt → Prop
  | nil : ShF K H [] .o
  | cons {a : Addr} {vs ws : List V} {k r : Dt} (h : SqT K H a vs) (p : ShF K H vs k) (q : ShF K H ws r) : ShF K H (.ref a :: ws) (.c k r)
theorem ShF.keep {K : PySem.W.Frag} {H H' : Hp} (e : KeepT H H') {vs : List V} {t : Dt} (h : ShF K H vs t) : ShF K H' vs t := by
  induction h with
  | nil => exact .nil
  | cons h _ _ ih1 ih2 => exact .cons (kt_sqt e h) ih1 ih2
theorem ShF.dtf {K : PySem.W.Frag} {H : Hp} {vs : List V} {t : Dt} (h : ShF K H vs t) : DtF K H vs t := by
  induction h with
  | nil => exact .nil
  | cons h _ _ ih1 ih2 => exact .tup h ih1 ih2
theorem ShF.len {K : PySem.W.Frag} {H : Hp} {vs : List V} {t : Dt} (h : ShF K H vs t) : vs.length = t.len := h.dtf.len
/-- a shape -/
def ShV (K : PySem.W.Frag) (H : Hp) (v : V) (t : Dt) : Prop := ∃ a vs, v = .ref a ∧ SqT K H a vs ∧ ShF K H vs t
theorem ShV.keep {K : PySem.W.Frag} {H H' : Hp} (e : KeepT H H') {v : V} {t : Dt} (h : ShV K H v t) : ShV K H' v t := by
  obtain ⟨a, vs, h1, h2, h3⟩ := h
  exact ⟨a, vs, h1, kt_sqt e h2, h3.keep e⟩
theorem ShF.at {K : PySem.W.Frag} {H : Hp} {vs : List V} {t : Dt} (h : ShF K H vs t) : ∀ (i : Nat) (v : V), vs[i]? = some v → ∃ k, t.kids[i]? = some k ∧ ShV K H v k := by
  induction h with
  | nil => intro i v h; simp at h
  | @cons a vs ws k r h p q _ ih2 =>
    intro i v hi
    cases i with
    | zero =>
      obtain rfl : V.ref a = v := by simpa using hi
      exact ⟨k, rfl, a, vs, rfl, h, p⟩
    | succ i =>
      have hi' : ws[i]? = some v := by simpa using hi
      exact ih2 i v hi'
namespace Dt
/-- the greatest depth -/
def ht : Dt → Nat | c k r => max (k.ht + 1) r.ht | _ => 0
theorem ht_kid : ∀ (t : Dt) (i : Nat) (k : Dt), t.kids[i]? = some k → k.ht + 1 ≤ t.ht
  | x, i, k, h => by simp [kids] at h
  | o, i, k, h => by simp [kids] at h
  | c k0 r, 0, k, h => by
    obtain rfl : k0 = k := Option.some.inj h
    exact Nat.le_max_left _ _
  | c k0 r, i + 1, k, h => Nat.le_trans (ht_kid r i k h) (Nat.le_max_right _ _)
/-! the addresses child by child -/
def rowsN (f : Dt → List Ad) (u : Dt) : Nat → List Ad
  | 0 => []
  | i + 1 => rowsN f u i ++ match u.kids[i]? with | some k => (f k).map (List.cons i) | none => []
theorem rowsN_up (f : Dt → List Ad) (hf : ∀ t, ∀ q ∈ f t, True) (k r : Dt) : ∀ i, rowsN f (c k r) (i + 1) = (f k).map (List.cons 0) ++ (rowsN f r i).map up
  | 0 => by simp [rowsN, kids]
  | i + 1 => by
    have ih := rowsN_up f hf k r i
    show rowsN f (c k r) (i + 1) ++ _ = _
    rw [ih]
    show _ ++ (match r.kids[i]? with | some k => (f k).map (List.cons (i + 1)) | none => []) = _
    show _ = (f k).map (List.cons 0) ++ (rowsN f r i ++ match r.kids[i]? with | some k => (f k).map (List.cons i) | none => []).map up
    rw [List.map_append, List.append_assoc]
    congr 2
    cases r.kids[i]? with
    | none => rfl
    | some k' => simp [up, Function.comp_def]
theorem adF_rows : ∀ u : Dt, adF u = rowsN ad u u.len
  | x => rfl
  | o => rfl
  | c k r => by
    show (ad k).map (List.cons 0) ++ (adF r).map up = rowsN ad (c k r) (r.len + 1)
    rw [rowsN_up ad (fun _ _ _ => trivial), adF_rows r]
theorem ad_rows (u : Dt) : ad u = [] :: rowsN ad u u.len := by
  rw [← adF_rows]
  rfl
theorem lvF_rows : ∀ u : Dt, (adF u).filter (isLf u) = rowsN lv u u.len
  | x => rfl
  | o => rfl
  | c k r => by
    show ((ad k).map (List.cons 0) ++ (adF r).map up).filter (isLf (c k r)) = rowsN lv (c k r) (r.len + 1)
    rw [rowsN_up lv (fun _ _ _ => trivial), ← lvF_rows r, List.filter_append]
    congr 1
    · unfold lv
      rw [List.filter_map]
      rfl
    · rw [List.filter_map]
      congr 1
      refine List.filter_congr fun q hq => ?_
      obtain ⟨j, p, rfl⟩ := adF_cons r q hq
      rfl
theorem lv_rows (u : Dt) (h : u.len ≠ 0) : lv u = rowsN lv u u.len := by
  rw [← lvF_rows]
  unfold lv ad
  have : isLf u [] = false := by
    rw [isLf_o (sub_nil u)]
    simpa using h
  rw [List.filter_cons, this]
  rfl
theorem idx_rows (u : Dt) : ∀ i, i < u.len → idx u [i] = 1 + (rowsN ad u i).length
  | 0, h => by
    rw [← kids_len] at h
    exact (idx_one u 0 _ (List.getElem?_eq_getElem h)).1 rfl
  | i + 1, h => by
    have ih := idx_rows u i (by omega)
    rw [← kids_len] at h
    have h1 : u.kids[i]? = some u.kids[i] := List.getElem?_eq_getElem (by omega)
    have h2 : u.kids[i + 1]? = some u.kids[i + 1] := List.getElem?_eq_getElem h
    have h3 := (idx_one u i _ h1).2.2.1 _ h2
    rw [h3, ih]
    show 1 + (rowsN ad u i).length + _ = 1 + (rowsN ad u i ++ match u.kids[i]? with | some k => (ad k).map (List.cons i) | none => []).length
    rw [h1, List.length_append, List.length_map, ad_len]
    omega
theorem low_rows {T u : Dt} {p : Ad} (hp : sub T p = some u) : ∀ i, i < u.len → low T (p ++ [i]) = low T p + (rowsN lv u i).length
  | 0, h => by
    obtain ⟨a, b⟩ := sub_app T p u hp [0]
    have h' : 0 < u.kids.length := by rw [kids_len]; exact h
    have h1 := (idx_one u 0 _ (List.getElem?_eq_getElem h')).1 rfl
    refine (low_first (sub_ad hp) ?_ (by omega)).trans rfl
    rw [isLf_o hp]
    simp
    omega
  | i + 1, h => by
    have ih := low_rows hp i (by omega)
    have h' := h
    rw [← kids_len] at h'
    have h1 : u.kids[i]? = some u.kids[i] := List.getElem?_eq_getElem (by omega)
    have h2 : u.kids[i + 1]? = some u.kids[i + 1] := List.getElem?_eq_getElem h'
    have h3 := (idx_one u i _ h1).2.2.1 _ h2
    obtain ⟨a, b⟩ := sub_app T p u hp [i]
    obtain ⟨a2, b2⟩ := sub_app T p u hp [i + 1]
    rw [sub_one, h1] at a
    have h4 := low_next a (q := p ++ [i + 1]) (by omega)
    rw [h4, ih]
    show low T p + (rowsN lv u i).length + _ = low T p + (rowsN lv u i ++ match u.kids[i]? with | some k => (lv k).map (List.cons i) | none => []).length
    rw [h1, List.length_append, List.length_map]
    unfold lf
    omega
theorem rowsN_le {f : Dt → List Ad} {u : Dt} : ∀ {i j : Nat}, i ≤ j → (rowsN f u i).length ≤ (rowsN f u j).length
  | i, 0, h => by
    have : i = 0 := by omega
    subst this
    exact Nat.le_refl _
  | i, j + 1, h => by
    by_cases e : i = j + 1
    · subst e; exact Nat.le_refl _
    · refine Nat.le_trans (rowsN_le (j := j) (by omega)) ?_
      show _ ≤ (rowsN f u j ++ _).length
      rw [List.length_append]
      omega
end Dt
end K23
set_option Elab.async false
set_option linter.all false
set_option maxRecDepth 100000
set_option maxHeartbeats 4000000
namespace K23
open PySem PySem.Spec PyProof.Rows L2 Dt
/-! ### what the lists hold for a node -/
def pth (T : Dt) (p : Ad) (n : Nat) : List V := (List.range n).map fun k => V.int (T.idx (p.take k) : Nat)
def parV (T : Dt) (q : Ad) : V := if q = [] then .non else .int (T.idx q.dropLast : Nat)
def sideI (q : Ad) : Int := match q.getLast? with | some i => (i : Nat) | none => -1
def kidV (T : Dt) (q : Ad) (w : Dt) : List V := (List.range w.len).map fun j => V.int (T.idx (q ++ [j]) : Nat)
def Cell (K : PySem.W.Frag) (H : Hp) (T : Dt) : Nat → V → Ad → Prop
  | 0, v, q => ∃ w, T.sub q = some w ∧ ShV K H v w
  | 1, v, q => v = parV T q
  | 2, v, q => ∃ w b, T.sub q = some w ∧ v = .ref b ∧ SqT K H b (kidV T q w)
  | 3, v, q => v = .int (q.length : Nat)
  | 4, v, q => v = .int (sideI q)
  | 5, v, q => v = .int (T.low q : Nat)
  | 6, v, q => ∃ w, T.sub q = some w ∧ v = .int (T.low q + w.lf : Nat)
  | 7, v, q => ∃ w, T.sub q = some w ∧ v = .int (T.idx q + w.nodes : Nat)
  | 8, v, q => v = .int (T.idx q : Nat)
  | _, v, q => ∃ b, v = .ref b ∧ SqT K H b (pth T q (q.length + 1))
theorem Cell.keep {K : PySem.W.Frag} {H H' : Hp} {T : Dt} (e : KeepT H H') : ∀ (i : Nat) (v : V) (q : Ad), Cell K H T i v q → Cell K H' T i v q
  | 0, v, q, ⟨w, h1, h2⟩ => ⟨w, h1, h2.keep e⟩
  | 1, v, q, h => h
  | 2, v, q, ⟨w, b, h1, h2, h3⟩ => ⟨w, b, h1, h2, kt_sqt e h3⟩
  | 3, v, q, h => h
  | 4, v, q, h => h
  | 5, v, q, h => h
  | 6, v, q, h => h
  | 7, v, q, h => h
  | 8, v, q, h => h
  | _ + 9, v, q, ⟨b, h1, h2⟩ => ⟨b, h1, kt_sqt e h2⟩
def aof (i : Nat) : Dt → List Ad := if i < 8 then ad else lv
def start (T : Dt) (p : Ad) (i : Nat) : Nat := if i < 8 then T.idx p else T.low p
def Grown (K : PySem.W.Frag) (H : Hp) (T : Dt) (l : Nat → List Ad) (S S' : Nat → List V) : Prop := ∀ i, i < 10 → ∃ R, S' i = S i ++ R ∧ Paired (Cell K H T i) R (l i)
def spGrow (K : PySem.W.Frag) (C : Addr) (n : Nat) : Sp := fun vs H Q _ => ∃ (a b ab dx : Addr) (bs : List V) (T u : Dt) (p : Ad) (fv : V) (L : Nat → Addr) (S : Nat → List V),
  vs = [.ref a, .ref b, .ref ab, .int (sideI p)] ∧ TreeAt C H a dx fv L S ∧ SqT K H b bs ∧ ShF K H bs u ∧ SqT K H ab (pth T p p.length) ∧ T.sub p = some u ∧ T.nodes ≤ 1000 ∧ u.ht < n ∧ p.length + n ≤ 1000 ∧
  (∀ i, i < 10 → (S i).length = start T p i) ∧
  ∀ H' S', TreeAt C H' a dx fv L S' → Keep L H H' → Grown K H' T (fun i => ((aof i) u).map (p ++ ·)) S S' → Q .non H'
theorem rCatA_all {K : PySem.W.Frag} {H : Hp} {a b : Addr} {xs ys : List V} {Q : VK} (ha : SqT K H a xs) (hb : SqT K H b ys) (hz : xs.length + ys.length ≤ sizeLine) (h : ∀ tp H2, Same H H2 → SqT K H2 tp (xs ++ ys) → Q (.ref tp) H2) : rCatA K (.ref a) (.ref b) H Q := by
  refine ⟨a, b, xs, ys, rfl, rfl, ha, hb, hz, fun e => ?_, fun _ e => ?_, fun _ _ p hp => ?_⟩
  · subst e
    exact h b H (fun _ _ z => z) hb
  · subst e
    refine h a H (fun _ _ z => z) ?_
    rw [List.append_nil]
    exact ha
  · exact h p _ (same_new hp) (SqT.of upd_same)
theorem pe_conv {X : Cx} {e : Expr} {t t' : TE} (h : PE X e t) (c : ∀ σ H Q, t' σ H Q → t σ H Q) : PE X e t' := ⟨fun pins s σ H Q I k => h.run pins s σ H Q I (c σ H Q k)⟩
theorem ps_conv {X : Cx} {e : Stmt} {t t' : TS} (h : PS X e t) (c : ∀ D σ H, t' D σ H → t D σ H) : PS X e t' := ⟨fun pins s σ H D I k => h.run pins s σ H D I (c D σ H k)⟩
theorem ixN_nat {n j : Nat} (h : j < n) : ixN n (j : Int) = some j := by
  unfold ixN
  rw [if_pos (by omega), if_pos (by omega)]
  rfl
theorem atI_last {l : List V} {v : V} : atI (l ++ [v]) (-1) = some v := by
  unfold atI ixN
  rw [if_neg (by decide), if_pos (by rw [List.length_append]; show -((l.length + 1 : Nat) : Int) ≤ -1; omega)]
  show (l ++ [v])[(-1 + ((l ++ [v]).length : Int)).toNat]? = some v
  have : (-1 + ((l ++ [v]).length : Int)).toNat = l.length := by rw [List.length_append, List.length_singleton]; omega
  rw [this]
  simp
/-- t[-1] if t else None -/
def tLast (K : PySem.W.Frag) (i : Nat) : TE := fun σ H Q => ∃ ab xs, σ[i]? = some (some (.ref ab)) ∧ SqT K H ab xs ∧ Q (xs.getLast?.getD .non) H
/-- if not bough: self.leaves.append(node); self.paths.append(path) -/
def tLeafS (K : PySem.W.Frag) (C : Addr) : TS := fun D σ H => ∃ a dx b bs fv L S tp node, σ[0]? = some (some (.ref a)) ∧ σ[1]? = some (some (.ref b)) ∧ σ[4]? = some (some (.int node)) ∧ σ[5]? = some (some (.ref tp)) ∧ TreeAt C H a dx fv L S ∧ SqT K H b bs ∧ (S 8).length < sizeLine ∧ (S 9).length < sizeLine ∧
  ∀ H', TreeAt C H' a dx fv L (if bs = [] then st (st S 8 (S 8 ++ [.int node])) 9 (S 9 ++ [.ref tp]) else S) → Keep L H H' → D.nx σ H'
theorem len_lt_nodes : ∀ t : Dt, t.len < t.nodes
  | x => Nat.lt_succ_self 0
  | o => Nat.lt_succ_self 0
  | c k r => by
    have h1 := len_lt_nodes r
    have h2 := k.nodes_pos
    show r.len + 1 < k.nodes + r.nodes
    omega
theorem sideI_snoc (p : Ad) (i : Nat) : sideI (p ++ [i]) = (i : Nat) := by
  unfold sideI
  rw [List.getLast?_append]
  rfl
theorem pth_snoc (T : Dt) (p : Ad) (i : Nat) : pth T (p ++ [i]) (p ++ [i]).length = pth T p (p.length + 1) := by
  unfold pth
  rw [List.length_append, List.length_singleton]
  refine List.map_congr_left fun k hk => ?_
  have : k ≤ p.length := by
    have := List.mem_range.mp hk
    omega
  rw [List.take_append_of_le_length this]
theorem pth_last (T : Dt) (p : Ad) : (pth T p p.length).getLast?.getD .non = parV T p := by
  unfold parV pth
  rcases List.eq_nil_or_concat p with rfl | ⟨l, i, rfl⟩
  · rfl
  · rw [List.concat_eq_append, if_neg (by simp), List.length_append, List.length_singleton, List.range_succ, List.map_append, List.getLast?_append, List.dropLast_concat]
    simp
theorem rowsN_succ (f : Dt → List Ad) {u k : Dt} {i : Nat} (h : u.kids[i]? = some k) (p : Ad) : (rowsN f u (i + 1)).map (p ++ ·) = (rowsN f u i).map (p ++ ·) ++ (f k).map ((p ++ [i]) ++ ·) := by
  show (rowsN f u i ++ match u.kids[i]? with | some k => (f k).map (List.cons i) | none => []).map (p ++ ·) = _
  rw [h, List.map_append, List.map_map]
  congr 1
  refine List.map_congr_left fun q _ => ?_
  simp
theorem set_mid (l r : List V) (x y : V) (n : Nat) (h : l.length = n) : ((l ++ [x]) ++ r).set n y = l ++ (y :: r) := by
  subst h
  rw [List.append_assoc]
  rw [List.set_append_right _ _ (Nat.le_refl _)]
  simp
/-- what the walks ask of the class -/
structure TCl (K : PySem.W.Frag) (mg : Str → Option Value) (C fG : Addr) : Prop where
  cl : Cls K C
  mG : Meth K C "_grow" fG
  nF : NoAttr K C "form"
  n0 : NoAttr K C "boughs"
  n1 : NoAttr K C "parents"
  n2 : NoAttr K C "kids"
  n3 : NoAttr K C "depths"
  n4 : NoAttr K C "sides"
  n5 : NoAttr K C "lows"
  n6 : NoAttr K C "highs"
  n7 : NoAttr K C "ends"
  n8 : NoAttr K C "leaves"
  n9 : NoAttr K C "paths"
section
variable {P : Program} {w : World} {K : PySem.W.Frag} {mg : Str → Option Value} {base : Heap}
theorem ok_grow {C f : Addr} {fd : FuncData} {n : Nat} (F : Fun K "_grow" "ShapeTree._grow" s_ShapeTree_grow f fd) (b : Binds K fd ["self", "bough", "above", "side"] []) (G : FnOk P w K mg base CX0 n f fd ["self", "bough", "above", "side"] (spGrow K C n))
    (T : Txt K mg) (TC : TCl K mg C f) : FnOk P w K mg base CX0 (n + 1) f fd ["self", "bough", "above", "side"] (spGrow K C (n + 1)) := by
  refine F.ok sc_ShapeTree_grow (fun vs H Q E h => ?_) (fun cdv A outer s H vs Q E hr h => ?_)
  · obtain ⟨a, b, ab, dx, bs, T, u, p, fv, L, S, rfl, _⟩ := h
    rfl
  obtain ⟨a, b', ab, dx, bs, D, u, p, fv, L, S, rfl, TA, hb, hS, hab, hsub, hD, hht, hpl, hst, q⟩ := h
  refine ⟨_, pss_cons (ps_set (i := 4) sc_ShapeTree_grow.nd rfl (.inl rfl) (pe_callB call_len_seq (by rfl) T.len PySem.boot_len (pa_cons (pe_fld (pv 0) rfl) pa_nil)))
    (pss_cons (ps_set (i := 5) sc_ShapeTree_grow.nd rfl (.inl rfl) (pe_op op_catA (pv 2) (pe_tup (pa_cons (pv 4) pa_nil))))
    (pss_cons (ps_expr (pe_bm PySem.F.plainAttrs_list PySem.F.slot_list_append PySem.F.type_list_append mt_append (pe_fld (pv 0) rfl) (pa_cons (pv 1) pa_nil)))
    (pss_cons (ps_expr (pe_bm PySem.F.plainAttrs_list PySem.F.slot_list_append PySem.F.type_list_append mt_append (pe_fld (pv 0) rfl) (pa_cons (pe_conv (t' := tLast K 2) (pe_ifExp (pt_truth (pv 2) (by intro _; rfl)) (pe_ix ix_tup (pv 2) (pe_un un_neg pe_int) (fun _ _ => rfl)) pe_non) (by
      rintro σ H Q ⟨ab, xs, h1, h2, q⟩
      refine ⟨_, h1, !xs.isEmpty, .inr (.inl ⟨xs, h2, rfl⟩), ?_⟩
      rcases List.eq_nil_or_concat xs with rfl | ⟨l, v, rfl⟩
      · exact iteF q
      · rw [show (!(l.concat v).isEmpty) = true by simp]
        rw [List.concat_eq_append] at h2 q
        refine iteT ?_
        refine ⟨_, h1, _, rfl, _, _, _, _, rfl, rfl, h2, atI_last, ?_⟩
        rw [List.getLast?_append] at q
        exact q)) pa_nil)))
    (pss_cons (ps_expr (pe_bm PySem.F.plainAttrs_list PySem.F.slot_list_append PySem.F.type_list_append mt_append (pe_fld (pv 0) rfl) (pa_cons (pe_callB call_len_seq (by rfl) T.len PySem.boot_len (pa_cons (pv 2) pa_nil)) pa_nil)))
    (pss_cons (ps_expr (pe_bm PySem.F.plainAttrs_list PySem.F.slot_list_append PySem.F.type_list_append mt_append (pe_fld (pv 0) rfl) (pa_cons (pv 3) pa_nil)))
    (pss_cons (ps_expr (pe_bm PySem.F.plainAttrs_list PySem.F.slot_list_append PySem.F.type_list_append mt_append (pe_fld (pv 0) rfl) (pa_cons (pe_callB call_len_seq (by rfl) T.len PySem.boot_len (pa_cons (pe_fld (pv 0) rfl) pa_nil)) pa_nil)))
    (pss_cons (ps_expr (pe_bm PySem.F.plainAttrs_list PySem.F.slot_list_append PySem.F.type_list_append mt_append (pe_fld (pv 0) rfl) (pa_cons (pe_tup pa_nil) pa_nil)))
    (pss_cons (ps_expr (pe_bm PySem.F.plainAttrs_list PySem.F.slot_list_append PySem.F.type_list_append mt_append (pe_fld (pv 0) rfl) (pa_cons pe_int pa_nil)))
    (pss_cons (ps_expr (pe_bm PySem.F.plainAttrs_list PySem.F.slot_list_append PySem.F.type_list_append mt_append (pe_fld (pv 0) rfl) (pa_cons pe_int pa_nil)))
    (pss_cons (ps_conv (t' := tLeafS K C) (ps_if (pt_not (pt_truth (pv 1) (by intro _; rfl)))
      (pss_cons (ps_expr (pe_bm PySem.F.plainAttrs_list PySem.F.slot_list_append PySem.F.type_list_append mt_append (pe_fld (pv 0) rfl) (pa_cons (pv 4) pa_nil)))
      (pss_one (ps_expr (pe_bm PySem.F.plainAttrs_list PySem.F.slot_list_append PySem.F.type_list_append mt_append (pe_fld (pv 0) rfl) (pa_cons (pv 5) pa_nil))))) pss_nil) (by
      rintro D σ H ⟨a, dx, b, bs, fv, L, S, tp, node, e0, e1, e4, e5, TA, hb, z8, z9, q⟩
      refine ⟨_, e1, !bs.isEmpty, .inr (.inl ⟨bs, hb, rfl⟩), ?_⟩
      cases bs with
      | nil =>
        refine iteT ?_
        refine ⟨_, e0, a, C, dx, _, _, rfl, TA.ob, TC.cl, TC.n8, stF_8 _ _, .inl ⟨rfl, _, SqL.of (TA.ls 8 (by decide))⟩, _, e4, L 8, _, _, rfl, rfl, TA.ls 8 (by decide), z8, ?_⟩
        have TA1 := TA.put (i := 8) (by decide) (S 8 ++ [.int node])
        refine ⟨_, e0, a, C, dx, _, _, rfl, TA1.ob, TC.cl, TC.n9, stF_9 _ _, .inl ⟨rfl, _, SqL.of (TA1.ls 9 (by decide))⟩, _, e5, L 9, _, _, rfl, rfl, TA1.ls 9 (by decide), z9, ?_⟩
        refine q _ ?_ (((Keep.refl L H).put (i := 8) (by decide) _).put (i := 9) (by decide) _)
        rw [if_pos rfl]
        exact TA1.put (i := 9) (by decide) (S 9 ++ [.ref tp])
      | cons x r =>
        refine iteF ?_
        exact q _ (by rw [if_neg (by simp)]; exact TA) (Keep.refl L H)))
    (pss_cons (ps_set (i := 6) sc_ShapeTree_grow.nd rfl (.inl rfl) (pe_lst pa_nil))
    (pss_cons (ps_for PassesOwn.never rfl (pi_enumT (by rfl) T.enumerate (pa_cons (pv 1) pa_nil)) (pg_tup rfl (pgs_cons (pg_name (i := 7) sc_ShapeTree_grow.nd rfl (.inl rfl)) (pgs_cons (pg_name (i := 8) sc_ShapeTree_grow.nd rfl (.inl rfl)) pgs_nil)))
      (pss_cons (ps_expr (pe_bm PySem.F.plainAttrs_list PySem.F.slot_list_append PySem.F.type_list_append mt_append (pv 6) (pa_cons (pe_callB call_len_seq (by rfl) T.len PySem.boot_len (pa_cons (pe_fld (pv 0) rfl) pa_nil)) pa_nil)))
      (pss_one (ps_expr (pe_meth (pv 0) TC.cl TC.mG G hr b .nil pass0 (pa_cons (pv 8) (pa_cons (pv 5) (pa_cons (pv 7) pa_nil))))))))
    (pss_cons (ps_asg (pe_callTy call_tuple_of (by rfl) T.tuple PyProof.Rows.boot_tuple (pa_cons (pv 6) pa_nil)) (pg_sub (pe_fld (pv 0) rfl) (pv 4) set_list))
    (pss_cons (ps_asg (pe_callB call_len_seq (by rfl) T.len PySem.boot_len (pa_cons (pe_fld (pv 0) rfl) pa_nil)) (pg_sub (pe_fld (pv 0) rfl) (pv 4) set_list))
    (pss_one (ps_asg (pe_callB call_len_seq (by rfl) T.len PySem.boot_len (pa_cons (pe_fld (pv 0) rfl) pa_nil)) (pg_sub (pe_fld (pv 0) rfl) (pv 4) set_list))))))))))))))))), ?_⟩
  have hrec := sub_app D p u hsub
  have hidx := idx_lt hsub
  have hlow := low_le hsub
  have hun := u.nodes_pos
  have hlf : D.lf ≤ D.nodes := by
    rw [← ad_len]
    exact List.length_filter_le _ _
  have hsm : ∀ i, i < 10 → (S i).length ≤ 1000 := fun i hi => by
    rw [hst i hi]
    unfold start
    split <;> omega
  have sz : ∀ i, i < 10 → (S i).length < sizeLine := fun i hi => small1000 (hsm i hi)
  have hl0 : (S 0).length = D.idx p := hst 0 (by decide)
  -- node = len(self.boughs)
  refine ⟨_, rfl, a, C, dx, _, _, rfl, TA.ob, TC.cl, TC.n0, stF_0 _ _, L 0, _, rfl, .inl (SqL.of (TA.ls 0 (by decide))), ?_⟩
  rw [hl0]
  -- path = above + (node,)
  refine ⟨_, rfl, _, rfl, (by show 1 ≤ sizeLine; decide), fun t1 ht1 => ?_⟩
  have s1 : Same H (upd H t1 (.tup [.int (D.idx p : Nat)])) := same_new ht1
  have epl : (pth D p p.length).length = p.length := by unfold pth; rw [List.length_map, List.length_range]
  have epth : pth D p p.length ++ [V.int (D.idx p : Nat)] = pth D p (p.length + 1) := by
    unfold pth
    rw [List.range_succ, List.map_append, List.map_singleton, List.take_length]
  refine rCatA_all (same_sqt s1 hab) (SqT.of upd_same) (Nat.le_of_lt (small1000 (by rw [epl, List.length_singleton]; omega))) fun tp H2 s2' htp => ?_
  rw [epth] at htp
  have s2 : Same H H2 := s1.trans s2'
  have TA2 := TA.same s2
  have K2 : Keep L H2 H2 := Keep.refl L H2
  have hab2 := same_sqt s2 hab
  have hb2 := same_sqt s2 hb
  have hS2 : ShF K H2 bs u := hS.keep (KeepT.of_same s2)
  -- self.boughs.append(bough)
  refine ⟨_, rfl, a, C, dx, _, _, rfl, TA2.ob, TC.cl, TC.n0, stF_0 _ _, .inl ⟨rfl, _, SqL.of (TA2.ls 0 (by decide))⟩, _, rfl, L 0, _, _, rfl, rfl, TA2.ls 0 (by decide), sz 0 (by decide), ?_⟩
  have TA3 := TA2.put (i := 0) (by decide) (S 0 ++ [.ref b'])
  have K3 := K2.put (i := 0) (by decide) (.lst (S 0 ++ [.ref b']))
  revert TA3 K3
  generalize upd H2 (L 0) (.lst (S 0 ++ [.ref b'])) = H3
  intro TA3 K3
  have kt3 := kt_sqt (TA2.keepT K3) hab2
  -- parents
  have l3 : H3 (L 1) = some (.lst (S 1)) := TA3.ls 1 (by decide)
  refine ⟨_, rfl, a, C, dx, _, _, rfl, TA3.ob, TC.cl, TC.n1, stF_1 _ _, .inl ⟨rfl, _, SqL.of l3⟩, ab, _, rfl, kt3, L 1, _, _, rfl, rfl, l3, sz 1 (by decide), ?_⟩
  have TA4 := TA3.put (i := 1) (by decide) (S 1 ++ [(pth D p p.length).getLast?.getD .non])
  have K4 := K3.put (i := 1) (by decide) (.lst (S 1 ++ [(pth D p p.length).getLast?.getD .non]))
  revert TA4 K4
  generalize upd H3 (L 1) (.lst (S 1 ++ [(pth D p p.length).getLast?.getD .non])) = H4
  intro TA4 K4
  have kt4 := kt_sqt (TA2.keepT K4) hab2
  -- depths
  have l4 : H4 (L 3) = some (.lst (S 3)) := TA4.ls 3 (by decide)
  refine ⟨_, rfl, a, C, dx, _, _, rfl, TA4.ob, TC.cl, TC.n3, stF_3 _ _, .inl ⟨rfl, _, SqL.of l4⟩, _, rfl, ab, _, rfl, .inr kt4, L 3, _, _, rfl, rfl, l4, sz 3 (by decide), ?_⟩
  have TA5 := TA4.put (i := 3) (by decide) (S 3 ++ [.int ((pth D p p.length).length : Nat)])
  have K5 := K4.put (i := 3) (by decide) (.lst (S 3 ++ [.int ((pth D p p.length).length : Nat)]))
  revert TA5 K5
  generalize upd H4 (L 3) (.lst (S 3 ++ [.int ((pth D p p.length).length : Nat)])) = H5
  intro TA5 K5
  -- sides
  have l5 : H5 (L 4) = some (.lst (S 4)) := TA5.ls 4 (by decide)
  refine ⟨_, rfl, a, C, dx, _, _, rfl, TA5.ob, TC.cl, TC.n4, stF_4 _ _, .inl ⟨rfl, _, SqL.of l5⟩, _, rfl, L 4, _, _, rfl, rfl, l5, sz 4 (by decide), ?_⟩
  have TA6 := TA5.put (i := 4) (by decide) (S 4 ++ [.int (sideI p)])
  have K6 := K5.put (i := 4) (by decide) (.lst (S 4 ++ [.int (sideI p)]))
  revert TA6 K6
  generalize upd H5 (L 4) (.lst (S 4 ++ [.int (sideI p)])) = H6
  intro TA6 K6
  have m6 : H6 (L 8) = some (.lst (S 8)) := TA6.ls 8 (by decide)
  -- lows
  have l6 : H6 (L 5) = some (.lst (S 5)) := TA6.ls 5 (by decide)
  refine ⟨_, rfl, a, C, dx, _, _, rfl, TA6.ob, TC.cl, TC.n5, stF_5 _ _, .inl ⟨rfl, _, SqL.of l6⟩, _, rfl, a, C, dx, _, _, rfl, TA6.ob, TC.cl, TC.n8, stF_8 _ _, L 8, _, rfl, .inl (SqL.of m6), L 5, _, _, rfl, rfl, l6, sz 5 (by decide), ?_⟩
  have TA7 := TA6.put (i := 5) (by decide) (S 5 ++ [.int ((S 8).length : Nat)])
  have K7 := K6.put (i := 5) (by decide) (.lst (S 5 ++ [.int ((S 8).length : Nat)]))
  revert TA7 K7
  generalize upd H6 (L 5) (.lst (S 5 ++ [.int ((S 8).length : Nat)])) = H7
  intro TA7 K7
  -- kids
  have l7 : H7 (L 2) = some (.lst (S 2)) := TA7.ls 2 (by decide)
  refine ⟨_, rfl, a, C, dx, _, _, rfl, TA7.ob, TC.cl, TC.n2, stF_2 _ _, .inl ⟨rfl, _, SqL.of l7⟩, (by show 0 ≤ sizeLine; decide), fun t2 ht2 => ?_⟩
  have s7 : Same H7 (upd H7 t2 (.tup [])) := same_new ht2
  have TA7' := TA7.same s7
  have K7' := K7.same s7
  have l7' : (upd H7 t2 (.tup [])) (L 2) = some (.lst (S 2)) := s7 _ _ l7
  refine ⟨L 2, _, _, rfl, rfl, l7', sz 2 (by decide), ?_⟩
  have TA8 := TA7'.put (i := 2) (by decide) (S 2 ++ [.ref t2])
  have K8 := K7'.put (i := 2) (by decide) (.lst (S 2 ++ [.ref t2]))
  revert TA8 K8
  generalize upd (upd H7 t2 (.tup [])) (L 2) (.lst (S 2 ++ [.ref t2])) = H8
  intro TA8 K8
  -- highs
  have l8 : H8 (L 6) = some (.lst (S 6)) := TA8.ls 6 (by decide)
  refine ⟨_, rfl, a, C, dx, _, _, rfl, TA8.ob, TC.cl, TC.n6, stF_6 _ _, .inl ⟨rfl, _, SqL.of l8⟩, L 6, _, _, rfl, rfl, l8, sz 6 (by decide), ?_⟩
  have TA9 := TA8.put (i := 6) (by decide) (S 6 ++ [.int 0])
  have K9 := K8.put (i := 6) (by decide) (.lst (S 6 ++ [.int 0]))
  revert TA9 K9
  generalize upd H8 (L 6) (.lst (S 6 ++ [.int 0])) = H9
  intro TA9 K9
  -- ends
  have l9 : H9 (L 7) = some (.lst (S 7)) := TA9.ls 7 (by decide)
  refine ⟨_, rfl, a, C, dx, _, _, rfl, TA9.ob, TC.cl, TC.n7, stF_7 _ _, .inl ⟨rfl, _, SqL.of l9⟩, L 7, _, _, rfl, rfl, l9, sz 7 (by decide), ?_⟩
  have TA10 := TA9.put (i := 7) (by decide) (S 7 ++ [.int 0])
  have K10 := K9.put (i := 7) (by decide) (.lst (S 7 ++ [.int 0]))
  revert TA10 K10
  generalize upd H9 (L 7) (.lst (S 7 ++ [.int 0])) = H10
  intro TA10 K10
  -- if not bough
  have hb10 : SqT K H10 b' bs := kt_sqt (TA2.keepT K10) hb2
  refine ⟨a, dx, b', bs, fv, L, _, tp, _, rfl, rfl, rfl, rfl, TA10, hb10, sz 8 (by decide), sz 9 (by decide), fun H11 TA11 K11' => ?_⟩
  have hul : bs.length = u.len := hS.len
  have ex : ∃ S11 : Nat → List V, TreeAt C H11 a dx fv L S11 ∧ S11 0 = S 0 ++ [.ref b'] ∧ S11 1 = S 1 ++ [parV D p] ∧ (∃ o, S11 2 = S 2 ++ [o]) ∧ S11 3 = S 3 ++ [.int (p.length : Nat)] ∧ S11 4 = S 4 ++ [.int (sideI p)] ∧ S11 5 = S 5 ++ [.int (D.low p : Nat)] ∧
      (∃ o, S11 6 = S 6 ++ [o]) ∧ (∃ o, S11 7 = S 7 ++ [o]) ∧ S11 8 = (if bs = [] then S 8 ++ [.int (D.idx p : Nat)] else S 8) ∧ S11 9 = (if bs = [] then S 9 ++ [.ref tp] else S 9) := by
    refine ⟨_, TA11, ?_⟩
    rw [pth_last, epl, hst 8 (by decide)]
    by_cases e : bs = []
    · simp only [if_pos e]
      exact ⟨rfl, rfl, ⟨_, rfl⟩, rfl, rfl, rfl, ⟨_, rfl⟩, ⟨_, rfl⟩, rfl, rfl⟩
    · simp only [if_neg e]
      exact ⟨rfl, rfl, ⟨_, rfl⟩, rfl, rfl, rfl, ⟨_, rfl⟩, ⟨_, rfl⟩, rfl, rfl⟩
  clear TA11
  obtain ⟨S11, TA11, q0, q1, ⟨o2, q2⟩, q3, q4, q5, ⟨o6, q6⟩, ⟨o7, q7⟩, q8, q9⟩ := ex
  have K11 : Keep L H2 H11 := K10.trans K11'
  have hb11 : SqT K H11 b' bs := kt_sqt (TA2.keepT K11) hb2
  have hS11 : ShF K H11 bs u := hS2.keep (TA2.keepT K11)
  have htp11 : SqT K H11 tp (pth D p (p.length + 1)) := kt_sqt (TA2.keepT K11) htp
  have KH : Keep L H H11 := fun y o h n => K11 y o (s2 y o h) n
  clear TA3 TA4 TA5 TA6 TA7 TA7' TA8 TA9 TA10 K3 K4 K5 K6 K7 K7' K8 K9 K10 K11'
  have lS : ∀ k, k < 8 → (S11 k).length = D.idx p + 1 := by
    have e : ∀ k, k < 8 → (S k).length = D.idx p := fun k hk => by
      rw [hst k (by omega)]
      unfold start
      rw [if_pos hk]
    intro k hk
    match k, hk with
    | 0, h => rw [q0, List.length_append, e 0 h]; rfl
    | 1, h => rw [q1, List.length_append, e 1 h]; rfl
    | 2, h => rw [q2, List.length_append, e 2 h]; rfl
    | 3, h => rw [q3, List.length_append, e 3 h]; rfl
    | 4, h => rw [q4, List.length_append, e 4 h]; rfl
    | 5, h => rw [q5, List.length_append, e 5 h]; rfl
    | 6, h => rw [q6, List.length_append, e 6 h]; rfl
    | 7, h => rw [q7, List.length_append, e 7 h]; rfl
  have lS8 : ∀ k, k = 8 ∨ k = 9 → (S11 k).length = D.low p + (if bs = [] then 1 else 0) := by
    rintro k (rfl | rfl)
    · rw [q8]
      have e := hst 8 (by decide)
      unfold start at e
      rw [if_neg (by decide)] at e
      split
      · rw [List.length_append, e]; rfl
      · exact e
    · rw [q9]
      have e := hst 9 (by decide)
      unfold start at e
      rw [if_neg (by decide)] at e
      split
      · rw [List.length_append, e]; rfl
      · exact e
  -- kids = []; for place, kid in enumerate(bough)
  refine ⟨(by show 0 ≤ sizeLine; decide), fun lk hlk => ?_⟩
  have s12 : Same H11 (upd H11 lk (.lst [])) := same_new hlk
  have lkL : ∀ i, i < 10 → lk ≠ L i := fun i hi e => by
    rw [e, TA11.ls i hi] at hlk
    exact nomatch hlk
  have lka : lk ≠ a := fun e => by
    rw [e, TA11.ob] at hlk
    exact nomatch hlk
  refine ⟨_, rfl, b', bs, rfl, same_sqt s12 hb11, for_it walk_enumT (fun i σ H' => ∃ (S' : Nat → List V) (o7 o8 : Option V), σ = [some (.ref a), some (.ref b'), some (.ref ab), some (.int (sideI p)), some (.int (D.idx p : Nat)), some (.ref tp), some (.ref lk), o7, o8] ∧
    TreeAt C H' a dx fv L S' ∧ Keep L H11 H' ∧ H' lk = some (.lst ((List.range i).map fun j => V.int (D.idx (p ++ [j]) : Nat))) ∧ Grown K H' D (fun k => (rowsN (aof k) u i).map (p ++ ·)) S11 S')
    ⟨S11, none, none, rfl, TA11.same s12, fun y o h _ => s12 _ _ h, upd_same, fun k _ => ⟨[], (List.append_nil _).symm, .nil⟩⟩ (fun i σ H' _ ⟨_, _, _, _, _, k, _⟩ => kt_sqt (TA11.keepT k) hb11) ?_ ?_⟩
  · rintro i y σ H' H'' hi ⟨S', o7, o8, rfl, TA', K', hlk', G'⟩ hY
    obtain ⟨T0, x', y', rfl, hT0, rfl, hx', hy'⟩ := hY
    obtain rfl : V.int (i : Nat) = x' := Option.some.inj hx'
    obtain ⟨kd, hkd, bk, ks, rfl, hsk, hFk⟩ := hS11.at i y' hy'
    have sT : Same H' (upd H' T0 (.tup [.int (i : Nat), .ref bk])) := same_new hT0
    have hiu : i < u.len := by omega
    have eidx := idx_rows u i hiu
    have elow := low_rows hsub i hiu
    obtain ⟨er1, er2⟩ := hrec [i]
    have hsub' : D.sub (p ++ [i]) = some kd := by
      rw [er1, sub_one]
      exact hkd
    have hbs : bs ≠ [] := fun e => by
      rw [e] at hi
      exact absurd hi (Nat.not_lt_zero _)
    have ln : ∀ k, k < 10 → (S' k).length = start D (p ++ [i]) k := by
      intro k hk
      obtain ⟨R, eR, pR⟩ := G' k hk
      have e1 := Paired.len pR
      rw [List.length_map] at e1
      rw [eR, List.length_append, e1]
      unfold start
      by_cases h8 : k < 8
      · rw [lS k h8, if_pos h8, er2, eidx]
        unfold aof
        rw [if_pos h8]
        omega
      · rw [lS8 k (by omega), if_neg h8, if_neg hbs, elow]
        unfold aof
        rw [if_neg h8]
        omega
    have l0 : (S' 0).length = D.idx (p ++ [i]) := ln 0 (by decide)
    have TAT := TA'.same sT
    -- kids.append(len(self.boughs))
    have hlkT := sT _ _ hlk'
    have hiN : i < D.nodes := by
      have := len_lt_nodes u
      omega
    refine ⟨T0, _, rfl, SqT.of upd_same, rfl, _, _, rfl, _, _, rfl, rfl, ?_⟩
    refine ⟨_, rfl, .inl ⟨rfl, _, SqL.of hlkT⟩, _, rfl, a, C, dx, _, _, rfl, TAT.ob, TC.cl, TC.n0, stF_0 _ _, L 0, _, rfl, .inl (SqL.of (TAT.ls 0 (by decide))), lk, _, _, rfl, rfl, hlkT, small1000 (by rw [List.length_map, List.length_range]; omega), ?_⟩
    rw [l0]
    have eks : ((List.range i).map fun j => V.int (D.idx (p ++ [j]) : Nat)) ++ [V.int (D.idx (p ++ [i]) : Nat)] = (List.range (i + 1)).map fun j => V.int (D.idx (p ++ [j]) : Nat) := by
      rw [List.range_succ, List.map_append, List.map_singleton]
    rw [eks]
    have TAU : TreeAt C (upd (upd H' T0 (.tup [.int (i : Nat), .ref bk])) lk (.lst ((List.range (i + 1)).map fun j => V.int (D.idx (p ++ [j]) : Nat)))) a dx fv L S' :=
      ⟨by rw [upd_ne (Ne.symm lka)]; exact TAT.ob, fun j hj => by rw [upd_ne (Ne.symm (lkL j hj))]; exact TAT.ls j hj, TAT.inj⟩
    have KU : Keep L H11 (upd (upd H' T0 (.tup [.int (i : Nat), .ref bk])) lk (.lst ((List.range (i + 1)).map fun j => V.int (D.idx (p ++ [j]) : Nat)))) := fun y o h n => by
      rw [upd_ne (ne_of_none h hlk)]
      exact sT _ _ (K' y o h n)
    have lkU : (upd (upd H' T0 (.tup [.int (i : Nat), .ref bk])) lk (.lst ((List.range (i + 1)).map fun j => V.int (D.idx (p ++ [j]) : Nat)))) lk = _ := upd_same
    have tU : KeepT H' (upd (upd H' T0 (.tup [.int (i : Nat), .ref bk])) lk (.lst ((List.range (i + 1)).map fun j => V.int (D.idx (p ++ [j]) : Nat)))) := fun y xs =>
      ⟨fun h => by rw [upd_ne (fun e => by rw [e, hlk'] at h; exact HO.noConfusion (Option.some.inj h))]; exact sT _ _ h, fun o h => by rw [upd_ne (fun e => by rw [e, hlk'] at h; exact HO.noConfusion (Option.some.inj h))]; exact sT _ _ h⟩
    revert TAU KU lkU tU
    generalize upd (upd H' T0 (.tup [.int (i : Nat), .ref bk])) lk (.lst ((List.range (i + 1)).map fun j => V.int (D.idx (p ++ [j]) : Nat))) = HU
    intro TAU KU lkU tU
    -- self._grow(kid, path, place)
    have kU := TA11.keepT KU
    refine ⟨_, rfl, a, dx, _, rfl, TAU.ob, stF_grow _ _, _, rfl, _, rfl, _, rfl, a, bk, tp, dx, ks, D, kd, p ++ [i], fv, L, S', congrArg (fun z => [V.ref a, V.ref bk, V.ref tp, V.int z]) (sideI_snoc p i).symm, TAU, kt_sqt kU hsk, hFk.keep kU, by rw [pth_snoc]; exact kt_sqt kU htp11, hsub', hD, ?_, ?_, ln, fun H3 S3 TA3 K3 G3 => ?_⟩
    · have := ht_kid u i kd hkd
      omega
    · rw [List.length_append, List.length_singleton]
      omega
    refine ⟨S3, _, _, rfl, TA3, KU.trans K3, K3 _ _ lkU lkL, fun k hk => ?_⟩
    obtain ⟨R1, eR1, pR1⟩ := G' k hk
    obtain ⟨R2, eR2, pR2⟩ := G3 k hk
    refine ⟨R1 ++ R2, by rw [eR2, eR1, List.append_assoc], ?_⟩
    show Paired (Cell K H3 D k) (R1 ++ R2) ((rowsN (aof k) u (i + 1)).map fun x => p ++ x)
    rw [rowsN_succ _ hkd]
    exact Paired.app (Paired.mono (fun v q c => Cell.keep (tU.trans (TAU.keepT K3)) k v q c) pR1) pR2
  · rintro σ H' ⟨S', o7, o8, rfl, TA', K', hlk', G'⟩
    rw [hul] at hlk' G'
    have kt' := TA11.keepT K'
    have hn8 : ∀ k, k < 8 → (S' k).length = D.idx p + u.nodes := by
      intro k hk
      obtain ⟨R, eR, pR⟩ := G' k (by omega)
      have e1 := Paired.len pR
      rw [List.length_map] at e1
      have e2 := ad_len u
      rw [ad_rows, List.length_cons] at e2
      rw [eR, List.length_append, e1, lS k hk]
      unfold aof
      rw [if_pos hk]
      omega
    have hq8 : (S' 8).length = D.low p + u.lf := by
      obtain ⟨R, eR, pR⟩ := G' 8 (by decide)
      have e1 := Paired.len pR
      rw [List.length_map] at e1
      rw [eR, List.length_append, e1, lS8 8 (.inl rfl), show aof 8 = lv from rfl]
      by_cases e : bs = []
      · rw [if_pos e]
        have e3 : u.len = 0 := by rw [← hul, e]; rfl
        rw [e3]
        unfold lf
        rw [(lv_leaf e3).1]
        rfl
      · rw [if_neg e]
        have e3 : u.len ≠ 0 := fun z => e (List.eq_nil_of_length_eq_zero (by omega))
        unfold lf
        rw [← lv_rows u e3]
        rfl
    have jn : D.idx p < D.idx p + u.nodes := by omega
    -- self.kids[node] = tuple(kids)
    refine ⟨_, rfl, lk, _, rfl, .inl ⟨SqL.of hlk', fun t3 ht3 => ?_⟩⟩
    have sA : Same H' (upd H' t3 (.tup ((List.range u.len).map fun j => V.int (D.idx (p ++ [j]) : Nat)))) := same_new ht3
    have TAA := TA'.same sA
    have mA := TAA.ls 2 (by decide)
    refine ⟨_, rfl, a, C, dx, _, _, rfl, TAA.ob, TC.cl, TC.n2, stF_2 _ _, _, rfl, L 2, _, _, D.idx p, rfl, rfl, mA, ixN_nat (by rw [hn8 2 (by decide)]; exact jn), ?_⟩
    have TAB := TAA.put (i := 2) (by decide) ((S' 2).set (D.idx p) (.ref t3))
    have KB := ((Keep.refl L H').same sA).put (i := 2) (by decide) (.lst ((S' 2).set (D.idx p) (.ref t3)))
    have hB3 : (upd (upd H' t3 (.tup ((List.range u.len).map fun j => V.int (D.idx (p ++ [j]) : Nat)))) (L 2) (.lst ((S' 2).set (D.idx p) (.ref t3)))) t3 = some (.tup (kidV D p u)) := by
      rw [upd_ne, upd_same]
      · rfl
      · intro e
        rw [e, TA'.ls 2 (by decide)] at ht3
        exact nomatch ht3
    revert TAB KB hB3
    generalize upd (upd H' t3 (.tup ((List.range u.len).map fun j => V.int (D.idx (p ++ [j]) : Nat)))) (L 2) (.lst ((S' 2).set (D.idx p) (.ref t3))) = HB
    intro TAB KB hB3
    -- self.highs[node] = len(self.leaves)
    have mB : HB (L 8) = some (.lst (S' 8)) := TAB.ls 8 (by decide)
    have mB6 : HB (L 6) = some (.lst (S' 6)) := TAB.ls 6 (by decide)
    refine ⟨_, rfl, a, C, dx, _, _, rfl, TAB.ob, TC.cl, TC.n8, stF_8 _ _, L 8, _, rfl, .inl (SqL.of mB), _, rfl, a, C, dx, _, _, rfl, TAB.ob, TC.cl, TC.n6, stF_6 _ _, _, rfl, L 6, _, _, D.idx p, rfl, rfl, mB6, ixN_nat (by rw [hn8 6 (by decide)]; exact jn), ?_⟩
    rw [hq8]
    have TAC := TAB.put (i := 6) (by decide) ((S' 6).set (D.idx p) (.int (D.low p + u.lf : Nat)))
    have KC := KB.put (i := 6) (by decide) (.lst ((S' 6).set (D.idx p) (.int (D.low p + u.lf : Nat))))
    have hC3 := (TAB.keepT ((Keep.refl L HB).put (i := 6) (by decide) (.lst ((S' 6).set (D.idx p) (.int (D.low p + u.lf : Nat)))))  t3 _).1 hB3
    revert TAC KC hC3
    generalize upd HB (L 6) (.lst ((S' 6).set (D.idx p) (.int (D.low p + u.lf : Nat)))) = HC
    intro TAC KC hC3
    -- self.ends[node] = len(self.boughs)
    have mC : HC (L 0) = some (.lst (S' 0)) := TAC.ls 0 (by decide)
    have mC7 : HC (L 7) = some (.lst (S' 7)) := TAC.ls 7 (by decide)
    refine ⟨_, rfl, a, C, dx, _, _, rfl, TAC.ob, TC.cl, TC.n0, stF_0 _ _, L 0, _, rfl, .inl (SqL.of mC), _, rfl, a, C, dx, _, _, rfl, TAC.ob, TC.cl, TC.n7, stF_7 _ _, _, rfl, L 7, _, _, D.idx p, rfl, rfl, mC7, ixN_nat (by rw [hn8 7 (by decide)]; exact jn), ?_⟩
    rw [hn8 0 (by decide)]
    have TAD := TAC.put (i := 7) (by decide) ((S' 7).set (D.idx p) (.int (D.idx p + u.nodes : Nat)))
    have KD := KC.put (i := 7) (by decide) (.lst ((S' 7).set (D.idx p) (.int (D.idx p + u.nodes : Nat))))
    have hD3 := (TAC.keepT ((Keep.refl L HC).put (i := 7) (by decide) (.lst ((S' 7).set (D.idx p) (.int (D.idx p + u.nodes : Nat)))))  t3 _).1 hC3
    revert TAD KD hD3
    generalize upd HC (L 7) (.lst ((S' 7).set (D.idx p) (.int (D.idx p + u.nodes : Nat)))) = HD
    intro TAD KD hD3
    refine q HD _ TAD ((KH.trans K').trans KD) ?_
    have ktD := TA'.keepT KD
    have cells : ∀ k, k < 8 → ∀ R, Paired (Cell K H' D k) R ((rowsN (aof k) u u.len).map (p ++ ·)) → ∀ v, Cell K HD D k v p → Paired (Cell K HD D k) (v :: R) ((aof k u).map (p ++ ·)) := by
      intro k hk R pR v hv
      have e : aof k u = [] :: rowsN (aof k) u u.len := by
        unfold aof
        rw [if_pos hk]
        exact ad_rows u
      rw [e, List.map_cons, List.append_nil]
      exact .cons hv (Paired.mono (fun v q c => Cell.keep ktD k v q c) pR)
    have cellsL : ∀ k, k = 8 ∨ k = 9 → ∀ R, Paired (Cell K H' D k) R ((rowsN (aof k) u u.len).map (p ++ ·)) → ∀ v, Cell K HD D k v p → ∃ R', (if bs = [] then S k ++ [v] else S k) ++ R = S k ++ R' ∧ Paired (Cell K HD D k) R' ((aof k u).map (p ++ ·)) := by
      intro k hk R pR v hv
      have ea : aof k = lv := by
        unfold aof
        rw [if_neg (by omega)]
      rw [ea] at pR ⊢
      by_cases e : bs = []
      · have e3 : u.len = 0 := by rw [← hul, e]; rfl
        rw [e3] at pR
        have pR' : Paired (Cell K H' D k) R [] := pR
        cases pR'
        refine ⟨[v], by rw [if_pos e, List.append_nil], ?_⟩
        rw [(lv_leaf e3).1]
        show Paired _ [v] [p ++ []]
        rw [List.append_nil]
        exact .cons hv .nil
      · have e3 : u.len ≠ 0 := fun z => e (List.eq_nil_of_length_eq_zero (by omega))
        refine ⟨R, by rw [if_neg e], ?_⟩
        rw [lv_rows u e3]
        exact Paired.mono (fun v q c => Cell.keep ktD k v q c) pR
    have hl : ∀ k, k < 8 → (S k).length = D.idx p := fun k hk => by
      rw [hst k (by omega)]
      unfold start
      rw [if_pos hk]
    intro k hk
    obtain ⟨R, eR, pR⟩ := G' k hk
    have htpD : SqT K HD tp (pth D p (p.length + 1)) := kt_sqt (kt'.trans ktD) htp11
    have hbD : SqT K HD b' bs := kt_sqt (kt'.trans ktD) hb11
    have hFD : ShF K HD bs u := hS11.keep (kt'.trans ktD)
    match k, hk, eR, pR with
    | 0, _, eR, pR => exact ⟨.ref b' :: R, by show S' 0 = _; rw [eR, q0]; simp, cells 0 (by decide) R pR _ ⟨u, hsub, b', bs, rfl, hbD, hFD⟩⟩
    | 1, _, eR, pR => exact ⟨parV D p :: R, by show S' 1 = _; rw [eR, q1]; simp, cells 1 (by decide) R pR _ rfl⟩
    | 2, _, eR, pR => exact ⟨.ref t3 :: R, by show (S' 2).set (D.idx p) (.ref t3) = _; rw [eR, q2]; exact set_mid _ _ _ _ _ (hl 2 (by decide)), cells 2 (by decide) R pR _ ⟨u, t3, hsub, rfl, SqT.of hD3⟩⟩
    | 3, _, eR, pR => exact ⟨.int (p.length : Nat) :: R, by show S' 3 = _; rw [eR, q3]; simp, cells 3 (by decide) R pR _ rfl⟩
    | 4, _, eR, pR => exact ⟨.int (sideI p) :: R, by show S' 4 = _; rw [eR, q4]; simp, cells 4 (by decide) R pR _ rfl⟩
    | 5, _, eR, pR => exact ⟨.int (D.low p : Nat) :: R, by show S' 5 = _; rw [eR, q5]; simp, cells 5 (by decide) R pR _ rfl⟩
    | 6, _, eR, pR => exact ⟨.int (D.low p + u.lf : Nat) :: R, by show (S' 6).set (D.idx p) _ = _; rw [eR, q6]; exact set_mid _ _ _ _ _ (hl 6 (by decide)), cells 6 (by decide) R pR _ ⟨u, hsub, rfl⟩⟩
    | 7, _, eR, pR => exact ⟨.int (D.idx p + u.nodes : Nat) :: R, by show (S' 7).set (D.idx p) _ = _; rw [eR, q7]; exact set_mid _ _ _ _ _ (hl 7 (by decide)), cells 7 (by decide) R pR _ ⟨u, hsub, rfl⟩⟩
    | 8, _, eR, pR =>
      obtain ⟨R', e1, e2⟩ := cellsL 8 (.inl rfl) R pR (.int (D.idx p : Nat)) rfl
      exact ⟨R', by show S' 8 = _; rw [eR, q8]; exact e1, e2⟩
    | 9, _, eR, pR =>
      obtain ⟨R', e1, e2⟩ := cellsL 9 (.inr rfl) R pR (.ref tp) ⟨tp, rfl, htpD⟩
      exact ⟨R', by show S' 9 = _; rw [eR, q9]; exact e1, e2⟩
end
end K23
set_option Elab.async false
set_option linter.all false
set_option maxRecDepth 100000
set_option maxHeartbeats 4000000
namespace K23
open PySem PySem.Spec PyProof.Rows L2 Dt
theorem DtF.good {K : PySem.W.Frag} {H : Hp} {vs : List V} {t : Dt} (h : DtF K H vs t) : t.deep 1 = true → ShF K H vs t := by
  induction h with
  | nil => exact fun _ => .nil
  | bad h n q ih =>
    intro g
    exact nomatch (show (false : Bool) = true by simpa [Dt.deep, Dt.here, Dt.isx] using g)
  | @tup a vs ws k r h p q ih1 ih2 =>
    intro g
    have g' : (here 1 k && deep 1 k && deep 1 r) = true := g
    simp only [Bool.and_eq_true] at g'
    exact .cons h (ih1 g'.1.2) (ih2 g'.2)
theorem DtV.good {K : PySem.W.Frag} {H : Hp} {v : V} {t : Dt} (h : DtV K H v t) (g : t.good 1 = true) : ShV K H v t := by
  rcases h with ⟨rfl, _⟩ | ⟨a, vs, h1, h2, h3⟩
  · exact nomatch (show (false : Bool) = true by simpa [Dt.good, Dt.here, Dt.isx] using g)
  · unfold Dt.good at g
    rw [Bool.and_eq_true] at g
    exact ⟨a, vs, h1, h2, h3.good g.2⟩
theorem getD_at (l : List Addr) (i : Nat) (h : i < l.length) : l.getD i 0 = l[i] := by
  simp [List.getElem?_eq_getElem h]
/-- the lists of a whole tree -/
def Full (K : PySem.W.Frag) (H : Hp) (T : Dt) (S : Nat → List V) : Prop := ∀ i, i < 10 → Paired (Cell K H T i) (S i) (aof i T)
structure InitAt (C : Addr) (H0 H : Hp) (a dx : Addr) (fs : List (Str × V)) (ls : List Addr) : Prop where
  ob : H a = some (.ins C dx fs)
  em : ∀ l ∈ ls, H l = some (.lst [])
  nd : ls.Nodup
  kp : ∀ y o, H0 y = some o → y ≠ a → H y = some o
  fr : ∀ l ∈ ls, H0 l = none
theorem InitAt.step {C : Addr} {H0 H : Hp} {a dx l : Addr} {fs fs' : List (Str × V)} {ls : List Addr} (h : InitAt C H0 H a dx fs ls) (hl : H l = none) : (upd H l (.lst [])) a = some (.ins C dx fs) ∧ InitAt C H0 (upd (upd H l (.lst [])) a (.ins C dx fs')) a dx fs' (ls ++ [l]) := by
  have ela : l ≠ a := fun e => by
    rw [e, h.ob] at hl
    exact nomatch hl
  have hnl : ∀ m ∈ ls, m ≠ l := fun m hm e => by
    have := h.em m hm
    rw [e, hl] at this
    exact nomatch this
  refine ⟨by rw [upd_ne (Ne.symm ela)]; exact h.ob, upd_same, fun m hm => ?_, ?_, fun y o e hy => ?_, fun m hm => ?_⟩
  · rcases List.mem_append.mp hm with hm | hm
    · rw [upd_ne, upd_ne (hnl m hm)]
      · exact h.em m hm
      · intro e
        have := h.em m hm
        rw [e, h.ob] at this
        exact HO.noConfusion (Option.some.inj this)
    · obtain rfl : m = l := by simpa using hm
      rw [upd_ne ela, upd_same]
  · refine List.nodup_append.mpr ⟨h.nd, by simp, fun x hx y hy => ?_⟩
    obtain rfl : y = l := by simpa using hy
    exact hnl x hx
  · rw [upd_ne hy, upd_ne (ne_of_none (h.kp y o e hy) hl)]
    exact h.kp y o e hy
  · rcases List.mem_append.mp hm with hm | hm
    · exact h.fr m hm
    · obtain rfl : m = l := by simpa using hm
      cases e : H0 m with
      | none => rfl
      | some o =>
        have := h.kp m o e ela
        rw [hl] at this
        exact nomatch this
def spInit (K : PySem.W.Frag) (C U : Addr) (n : Nat) : Sp := fun vs H Q E => ∃ (a dx : Addr) (v : V) (t : Dt), vs = [.ref a, v] ∧ H a = some (.ins C dx []) ∧ DtV K H v t ∧ t.size ≤ 100000 ∧
  (t.good 1 = true → t.ht < n ∧ t.nodes ≤ 1000 ∧ ∀ H' L S, TreeAt C H' a dx v L S → (∀ y o, H y = some o → y ≠ a → H' y = some o) → Full K H' t S → (∀ i, i < 10 → H (L i) = none) → Q .non H') ∧
  (t.good 1 = false → ∀ H' d, Same H H' → H' d = none → E (.ref U) (some d) (upd H' d (xdO "form" (-1))))
section
variable {P : Program} {w : World} {K : PySem.W.Frag} {mg : Str → Option Value} {base : Heap}
theorem ok_init {C U f fG : Addr} {fd fdG : FuncData} (F : Fun K "__init__" "ShapeTree.__init__" s_ShapeTree_init f fd) (bG : Binds K fdG ["self", "bough", "above", "side"] []) (G : FnOk P w K mg base CX0 20 fG fdG ["self", "bough", "above", "side"] (spGrow K C 20))
    (TC : TCl K mg C fG) (GN : CalX P w K mg base (L2.CX P w) 4 "need_shape" ["form", "word"] (spNeedShape K U)) : FnOk P w K mg base (L2.CX P w) 21 f fd ["self", "form"] (spInit K C U 20) := by
  refine F.okX sc_ShapeTree_init (fun vs H Q E h => ?_) (fun cdv A outer s H vs Q E hr h => ?_)
  · obtain ⟨a, dx, v, t, rfl, _⟩ := h
    rfl
  obtain ⟨a, dx, v, t, rfl, ho, hv, hz, q1, q2⟩ := h
  refine ⟨_, pss_cons (ps_expr (pe_cx GN hr (by decide) rfl (passes_call (takes_of rfl rfl rfl rfl) (fun _ _ _ _ h => h)) (pa_cons (pv 1) (pa_cons pe_str pa_nil))))
    (pss_cons (ps_fld (pv 0) (pv 1) rfl)
    (pss_cons (ps_fld (pv 0) (pe_lst pa_nil) rfl)
    (pss_cons (ps_fld (pv 0) (pe_lst pa_nil) rfl)
    (pss_cons (ps_fld (pv 0) (pe_lst pa_nil) rfl)
    (pss_cons (ps_fld (pv 0) (pe_lst pa_nil) rfl)
    (pss_cons (ps_fld (pv 0) (pe_lst pa_nil) rfl)
    (pss_cons (ps_fld (pv 0) (pe_lst pa_nil) rfl)
    (pss_cons (ps_fld (pv 0) (pe_lst pa_nil) rfl)
    (pss_cons (ps_fld (pv 0) (pe_lst pa_nil) rfl)
    (pss_cons (ps_fld (pv 0) (pe_lst pa_nil) rfl)
    (pss_cons (ps_fld (pv 0) (pe_lst pa_nil) rfl)
    (pss_one (ps_expr (pe_meth (pv 0) TC.cl TC.mG G hr bG .nil pass0 (pa_cons (pv 1) (pa_cons (pe_tup pa_nil) (pa_cons (pe_un un_neg pe_int) pa_nil))))))))))))))))), ?_⟩
  refine ⟨_, rfl, v, t, "form", rfl, hv, hz, fun g H' sm => ?_, fun g H' d sm hd => q2 g H' d sm hd⟩
  obtain ⟨q1a, q1b, q1c⟩ := q1 g
  have ho' := sm _ _ ho
  refine ⟨_, rfl, _, rfl, a, C, dx, [], rfl, ho', TC.cl, TC.nF, (by show 0 < 1000; decide), ?_⟩
  have I0 : InitAt C H (upd H' a (.ins C dx (putF "form" v []))) a dx [("form", v)] [] := ⟨upd_same, (fun _ h => nomatch h), List.nodup_nil, fun y o e hy => by rw [upd_ne hy]; exact sm _ _ e, fun _ h => nomatch h⟩
  revert I0
  generalize upd H' a (.ins C dx (putF "form" v [])) = H0
  intro I0
  refine ⟨(by show 0 ≤ sizeLine; decide), fun l0 hl0 => ?_⟩
  obtain ⟨o0, I1⟩ := I0.step (fs' := (([("form", v)] : List (Str × V)) ++ ([("boughs", V.ref l0)] : List (Str × V)))) hl0
  refine ⟨_, rfl, a, C, dx, _, rfl, o0, TC.cl, TC.n0, (by show 1 < 1000; decide), ?_⟩
  rw [putF_new (f := ("boughs" : Str)) (v := V.ref l0) (fs := ([("form", v)] : List (Str × V))) (show ∀ g ∈ (["form"] : List Str), ¬ g = "boughs" by decide +kernel)]
  revert I1
  generalize upd (upd H0 l0 (.lst [])) a (.ins C dx (([("form", v)] : List (Str × V)) ++ ([("boughs", V.ref l0)] : List (Str × V)))) = H1
  intro I1
  refine ⟨(by show 0 ≤ sizeLine; decide), fun l1 hl1 => ?_⟩
  obtain ⟨o1, I2⟩ := I1.step (fs' := ((([("form", v)] : List (Str × V)) ++ ([("boughs", V.ref l0)] : List (Str × V))) ++ ([("parents", V.ref l1)] : List (Str × V)))) hl1
  refine ⟨_, rfl, a, C, dx, _, rfl, o1, TC.cl, TC.n1, (by show 2 < 1000; decide), ?_⟩
  rw [putF_new (f := ("parents" : Str)) (v := V.ref l1) (fs := (([("form", v)] : List (Str × V)) ++ ([("boughs", V.ref l0)] : List (Str × V)))) (show ∀ g ∈ (["form", "boughs"] : List Str), ¬ g = "parents" by decide +kernel)]
  revert I2
  generalize upd (upd H1 l1 (.lst [])) a (.ins C dx ((([("form", v)] : List (Str × V)) ++ ([("boughs", V.ref l0)] : List (Str × V))) ++ ([("parents", V.ref l1)] : List (Str × V)))) = H2
  intro I2
  refine ⟨(by show 0 ≤ sizeLine; decide), fun l2 hl2 => ?_⟩
  obtain ⟨o2, I3⟩ := I2.step (fs' := (((([("form", v)] : List (Str × V)) ++ ([("boughs", V.ref l0)] : List (Str × V))) ++ ([("parents", V.ref l1)] : List (Str × V))) ++ ([("kids", V.ref l2)] : List (Str × V)))) hl2
  refine ⟨_, rfl, a, C, dx, _, rfl, o2, TC.cl, TC.n2, (by show 3 < 1000; decide), ?_⟩
  rw [putF_new (f := ("kids" : Str)) (v := V.ref l2) (fs := ((([("form", v)] : List (Str × V)) ++ ([("boughs", V.ref l0)] : List (Str × V))) ++ ([("parents", V.ref l1)] : List (Str × V)))) (show ∀ g ∈ (["form", "boughs", "parents"] : List Str), ¬ g = "kids" by decide +kernel)]
  revert I3
  generalize upd (upd H2 l2 (.lst [])) a (.ins C dx (((([("form", v)] : List (Str × V)) ++ ([("boughs", V.ref l0)] : List (Str × V))) ++ ([("parents", V.ref l1)] : List (Str × V))) ++ ([("kids", V.ref l2)] : List (Str × V)))) = H3
  intro I3
  refine ⟨(by show 0 ≤ sizeLine; decide), fun l3 hl3 => ?_⟩
  obtain ⟨o3, I4⟩ := I3.step (fs' := ((((([("form", v)] : List (Str × V)) ++ ([("boughs", V.ref l0)] : List (Str × V))) ++ ([("parents", V.ref l1)] : List (Str × V))) ++ ([("kids", V.ref l2)] : List (Str × V))) ++ ([("depths", V.ref l3)] : List (Str × V)))) hl3
  refine ⟨_, rfl, a, C, dx, _, rfl, o3, TC.cl, TC.n3, (by show 4 < 1000; decide), ?_⟩
  rw [putF_new (f := ("depths" : Str)) (v := V.ref l3) (fs := (((([("form", v)] : List (Str × V)) ++ ([("boughs", V.ref l0)] : List (Str × V))) ++ ([("parents", V.ref l1)] : List (Str × V))) ++ ([("kids", V.ref l2)] : List (Str × V)))) (show ∀ g ∈ (["form", "boughs", "parents", "kids"] : List Str), ¬ g = "depths" by decide +kernel)]
  revert I4
  generalize upd (upd H3 l3 (.lst [])) a (.ins C dx ((((([("form", v)] : List (Str × V)) ++ ([("boughs", V.ref l0)] : List (Str × V))) ++ ([("parents", V.ref l1)] : List (Str × V))) ++ ([("kids", V.ref l2)] : List (Str × V))) ++ ([("depths", V.ref l3)] : List (Str × V)))) = H4
  intro I4
  refine ⟨(by show 0 ≤ sizeLine; decide), fun l4 hl4 => ?_⟩
  obtain ⟨o4, I5⟩ := I4.step (fs' := (((((([("form", v)] : List (Str × V)) ++ ([("boughs", V.ref l0)] : List (Str × V))) ++ ([("parents", V.ref l1)] : List (Str × V))) ++ ([("kids", V.ref l2)] : List (Str × V))) ++ ([("depths", V.ref l3)] : List (Str × V))) ++ ([("sides", V.ref l4)] : List (Str × V)))) hl4
  refine ⟨_, rfl, a, C, dx, _, rfl, o4, TC.cl, TC.n4, (by show 5 < 1000; decide), ?_⟩
  rw [putF_new (f := ("sides" : Str)) (v := V.ref l4) (fs := ((((([("form", v)] : List (Str × V)) ++ ([("boughs", V.ref l0)] : List (Str × V))) ++ ([("parents", V.ref l1)] : List (Str × V))) ++ ([("kids", V.ref l2)] : List (Str × V))) ++ ([("depths", V.ref l3)] : List (Str × V)))) (show ∀ g ∈ (["form", "boughs", "parents", "kids", "depths"] : List Str), ¬ g = "sides" by decide +kernel)]
  revert I5
  generalize upd (upd H4 l4 (.lst [])) a (.ins C dx (((((([("form", v)] : List (Str × V)) ++ ([("boughs", V.ref l0)] : List (Str × V))) ++ ([("parents", V.ref l1)] : List (Str × V))) ++ ([("kids", V.ref l2)] : List (Str × V))) ++ ([("depths", V.ref l3)] : List (Str × V))) ++ ([("sides", V.ref l4)] : List (Str × V)))) = H5
  intro I5
  refine ⟨(by show 0 ≤ sizeLine; decide), fun l5 hl5 => ?_⟩
  obtain ⟨o5, I6⟩ := I5.step (fs' := ((((((([("form", v)] : List (Str × V)) ++ ([("boughs", V.ref l0)] : List (Str × V))) ++ ([("parents", V.ref l1)] : List (Str × V))) ++ ([("kids", V.ref l2)] : List (Str × V))) ++ ([("depths", V.ref l3)] : List (Str × V))) ++ ([("sides", V.ref l4)] : List (Str × V))) ++ ([("lows", V.ref l5)] : List (Str × V)))) hl5
  refine ⟨_, rfl, a, C, dx, _, rfl, o5, TC.cl, TC.n5, (by show 6 < 1000; decide), ?_⟩
  rw [putF_new (f := ("lows" : Str)) (v := V.ref l5) (fs := (((((([("form", v)] : List (Str × V)) ++ ([("boughs", V.ref l0)] : List (Str × V))) ++ ([("parents", V.ref l1)] : List (Str × V))) ++ ([("kids", V.ref l2)] : List (Str × V))) ++ ([("depths", V.ref l3)] : List (Str × V))) ++ ([("sides", V.ref l4)] : List (Str × V)))) (show ∀ g ∈ (["form", "boughs", "parents", "kids", "depths", "sides"] : List Str), ¬ g = "lows" by decide +kernel)]
  revert I6
  generalize upd (upd H5 l5 (.lst [])) a (.ins C dx ((((((([("form", v)] : List (Str × V)) ++ ([("boughs", V.ref l0)] : List (Str × V))) ++ ([("parents", V.ref l1)] : List (Str × V))) ++ ([("kids", V.ref l2)] : List (Str × V))) ++ ([("depths", V.ref l3)] : List (Str × V))) ++ ([("sides", V.ref l4)] : List (Str × V))) ++ ([("lows", V.ref l5)] : List (Str × V)))) = H6
  intro I6
  refine ⟨(by show 0 ≤ sizeLine; decide), fun l6 hl6 => ?_⟩
  obtain ⟨o6, I7⟩ := I6.step (fs' := (((((((([("form", v)] : List (Str × V)) ++ ([("boughs", V.ref l0)] : List (Str × V))) ++ ([("parents", V.ref l1)] : List (Str × V))) ++ ([("kids", V.ref l2)] : List (Str × V))) ++ ([("depths", V.ref l3)] : List (Str × V))) ++ ([("sides", V.ref l4)] : List (Str × V))) ++ ([("lows", V.ref l5)] : List (Str × V))) ++ ([("highs", V.ref l6)] : List (Str × V)))) hl6
  refine ⟨_, rfl, a, C, dx, _, rfl, o6, TC.cl, TC.n6, (by show 7 < 1000; decide), ?_⟩
  rw [putF_new (f := ("highs" : Str)) (v := V.ref l6) (fs := ((((((([("form", v)] : List (Str × V)) ++ ([("boughs", V.ref l0)] : List (Str × V))) ++ ([("parents", V.ref l1)] : List (Str × V))) ++ ([("kids", V.ref l2)] : List (Str × V))) ++ ([("depths", V.ref l3)] : List (Str × V))) ++ ([("sides", V.ref l4)] : List (Str × V))) ++ ([("lows", V.ref l5)] : List (Str × V)))) (show ∀ g ∈ (["form", "boughs", "parents", "kids", "depths", "sides", "lows"] : List Str), ¬ g = "highs" by decide +kernel)]
  revert I7
  generalize upd (upd H6 l6 (.lst [])) a (.ins C dx (((((((([("form", v)] : List (Str × V)) ++ ([("boughs", V.ref l0)] : List (Str × V))) ++ ([("parents", V.ref l1)] : List (Str × V))) ++ ([("kids", V.ref l2)] : List (Str × V))) ++ ([("depths", V.ref l3)] : List (Str × V))) ++ ([("sides", V.ref l4)] : List (Str × V))) ++ ([("lows", V.ref l5)] : List (Str × V))) ++ ([("highs", V.ref l6)] : List (Str × V)))) = H7
  intro I7
  refine ⟨(by show 0 ≤ sizeLine; decide), fun l7 hl7 => ?_⟩
  obtain ⟨o7, I8⟩ := I7.step (fs' := ((((((((([("form", v)] : List (Str × V)) ++ ([("boughs", V.ref l0)] : List (Str × V))) ++ ([("parents", V.ref l1)] : List (Str × V))) ++ ([("kids", V.ref l2)] : List (Str × V))) ++ ([("depths", V.ref l3)] : List (Str × V))) ++ ([("sides", V.ref l4)] : List (Str × V))) ++ ([("lows", V.ref l5)] : List (Str × V))) ++ ([("highs", V.ref l6)] : List (Str × V))) ++ ([("ends", V.ref l7)] : List (Str × V)))) hl7
  refine ⟨_, rfl, a, C, dx, _, rfl, o7, TC.cl, TC.n7, (by show 8 < 1000; decide), ?_⟩
  rw [putF_new (f := ("ends" : Str)) (v := V.ref l7) (fs := (((((((([("form", v)] : List (Str × V)) ++ ([("boughs", V.ref l0)] : List (Str × V))) ++ ([("parents", V.ref l1)] : List (Str × V))) ++ ([("kids", V.ref l2)] : List (Str × V))) ++ ([("depths", V.ref l3)] : List (Str × V))) ++ ([("sides", V.ref l4)] : List (Str × V))) ++ ([("lows", V.ref l5)] : List (Str × V))) ++ ([("highs", V.ref l6)] : List (Str × V)))) (show ∀ g ∈ (["form", "boughs", "parents", "kids", "depths", "sides", "lows", "highs"] : List Str), ¬ g = "ends" by decide +kernel)]
  revert I8
  generalize upd (upd H7 l7 (.lst [])) a (.ins C dx ((((((((([("form", v)] : List (Str × V)) ++ ([("boughs", V.ref l0)] : List (Str × V))) ++ ([("parents", V.ref l1)] : List (Str × V))) ++ ([("kids", V.ref l2)] : List (Str × V))) ++ ([("depths", V.ref l3)] : List (Str × V))) ++ ([("sides", V.ref l4)] : List (Str × V))) ++ ([("lows", V.ref l5)] : List (Str × V))) ++ ([("highs", V.ref l6)] : List (Str × V))) ++ ([("ends", V.ref l7)] : List (Str × V)))) = H8
  intro I8
  refine ⟨(by show 0 ≤ sizeLine; decide), fun l8 hl8 => ?_⟩
  obtain ⟨o8, I9⟩ := I8.step (fs' := (((((((((([("form", v)] : List (Str × V)) ++ ([("boughs", V.ref l0)] : List (Str × V))) ++ ([("parents", V.ref l1)] : List (Str × V))) ++ ([("kids", V.ref l2)] : List (Str × V))) ++ ([("depths", V.ref l3)] : List (Str × V))) ++ ([("sides", V.ref l4)] : List (Str × V))) ++ ([("lows", V.ref l5)] : List (Str × V))) ++ ([("highs", V.ref l6)] : List (Str × V))) ++ ([("ends", V.ref l7)] : List (Str × V))) ++ ([("leaves", V.ref l8)] : List (Str × V)))) hl8
  refine ⟨_, rfl, a, C, dx, _, rfl, o8, TC.cl, TC.n8, (by show 9 < 1000; decide), ?_⟩
  rw [putF_new (f := ("leaves" : Str)) (v := V.ref l8) (fs := ((((((((([("form", v)] : List (Str × V)) ++ ([("boughs", V.ref l0)] : List (Str × V))) ++ ([("parents", V.ref l1)] : List (Str × V))) ++ ([("kids", V.ref l2)] : List (Str × V))) ++ ([("depths", V.ref l3)] : List (Str × V))) ++ ([("sides", V.ref l4)] : List (Str × V))) ++ ([("lows", V.ref l5)] : List (Str × V))) ++ ([("highs", V.ref l6)] : List (Str × V))) ++ ([("ends", V.ref l7)] : List (Str × V)))) (show ∀ g ∈ (["form", "boughs", "parents", "kids", "depths", "sides", "lows", "highs", "ends"] : List Str), ¬ g = "leaves" by decide +kernel)]
  revert I9
  generalize upd (upd H8 l8 (.lst [])) a (.ins C dx (((((((((([("form", v)] : List (Str × V)) ++ ([("boughs", V.ref l0)] : List (Str × V))) ++ ([("parents", V.ref l1)] : List (Str × V))) ++ ([("kids", V.ref l2)] : List (Str × V))) ++ ([("depths", V.ref l3)] : List (Str × V))) ++ ([("sides", V.ref l4)] : List (Str × V))) ++ ([("lows", V.ref l5)] : List (Str × V))) ++ ([("highs", V.ref l6)] : List (Str × V))) ++ ([("ends", V.ref l7)] : List (Str × V))) ++ ([("leaves", V.ref l8)] : List (Str × V)))) = H9
  intro I9
  refine ⟨(by show 0 ≤ sizeLine; decide), fun l9 hl9 => ?_⟩
  obtain ⟨o9, I10⟩ := I9.step (fs' := ((((((((((([("form", v)] : List (Str × V)) ++ ([("boughs", V.ref l0)] : List (Str × V))) ++ ([("parents", V.ref l1)] : List (Str × V))) ++ ([("kids", V.ref l2)] : List (Str × V))) ++ ([("depths", V.ref l3)] : List (Str × V))) ++ ([("sides", V.ref l4)] : List (Str × V))) ++ ([("lows", V.ref l5)] : List (Str × V))) ++ ([("highs", V.ref l6)] : List (Str × V))) ++ ([("ends", V.ref l7)] : List (Str × V))) ++ ([("leaves", V.ref l8)] : List (Str × V))) ++ ([("paths", V.ref l9)] : List (Str × V)))) hl9
  refine ⟨_, rfl, a, C, dx, _, rfl, o9, TC.cl, TC.n9, (by show 10 < 1000; decide), ?_⟩
  rw [putF_new (f := ("paths" : Str)) (v := V.ref l9) (fs := (((((((((([("form", v)] : List (Str × V)) ++ ([("boughs", V.ref l0)] : List (Str × V))) ++ ([("parents", V.ref l1)] : List (Str × V))) ++ ([("kids", V.ref l2)] : List (Str × V))) ++ ([("depths", V.ref l3)] : List (Str × V))) ++ ([("sides", V.ref l4)] : List (Str × V))) ++ ([("lows", V.ref l5)] : List (Str × V))) ++ ([("highs", V.ref l6)] : List (Str × V))) ++ ([("ends", V.ref l7)] : List (Str × V))) ++ ([("leaves", V.ref l8)] : List (Str × V)))) (show ∀ g ∈ (["form", "boughs", "parents", "kids", "depths", "sides", "lows", "highs", "ends", "leaves"] : List Str), ¬ g = "paths" by decide +kernel)]
  revert I10
  generalize upd (upd H9 l9 (.lst [])) a (.ins C dx ((((((((((([("form", v)] : List (Str × V)) ++ ([("boughs", V.ref l0)] : List (Str × V))) ++ ([("parents", V.ref l1)] : List (Str × V))) ++ ([("kids", V.ref l2)] : List (Str × V))) ++ ([("depths", V.ref l3)] : List (Str × V))) ++ ([("sides", V.ref l4)] : List (Str × V))) ++ ([("lows", V.ref l5)] : List (Str × V))) ++ ([("highs", V.ref l6)] : List (Str × V))) ++ ([("ends", V.ref l7)] : List (Str × V))) ++ ([("leaves", V.ref l8)] : List (Str × V))) ++ ([("paths", V.ref l9)] : List (Str × V)))) = H10
  intro I10
  have ob : H10 a = some (.ins C dx (stF v (fun i => [l0, l1, l2, l3, l4, l5, l6, l7, l8, l9].getD i 0))) := I10.ob
  have TA : TreeAt C H10 a dx v (fun i => [l0, l1, l2, l3, l4, l5, l6, l7, l8, l9].getD i 0) (fun _ => []) := ⟨ob, fun i hi => I10.em _ (by
      rw [getD_at _ _ (show i < [l0, l1, l2, l3, l4, l5, l6, l7, l8, l9].length from hi)]
      exact List.getElem_mem _), fun i j hi hj e => by
      have e' : [l0, l1, l2, l3, l4, l5, l6, l7, l8, l9].getD i 0 = [l0, l1, l2, l3, l4, l5, l6, l7, l8, l9].getD j 0 := e
      rw [getD_at _ _ (show i < [l0, l1, l2, l3, l4, l5, l6, l7, l8, l9].length from hi), getD_at _ _ (show j < [l0, l1, l2, l3, l4, l5, l6, l7, l8, l9].length from hj)] at e'
      exact (List.getElem_inj (show [l0, l1, l2, l3, l4, l5, l6, l7, l8, l9].Nodup from I10.nd)).mp e'⟩
  have fr : ∀ i, i < 10 → H ([l0, l1, l2, l3, l4, l5, l6, l7, l8, l9].getD i 0) = none := fun i hi => I10.fr _ (by
      rw [getD_at _ _ (show i < [l0, l1, l2, l3, l4, l5, l6, l7, l8, l9].length from hi)]
      exact List.getElem_mem _)
  revert TA fr
  generalize hL : (fun i => [l0, l1, l2, l3, l4, l5, l6, l7, l8, l9].getD i 0) = L
  intro TA fr
  have fr' : ∀ i, i < 10 → H (L i) = none := fun i hi => by rw [← hL]; exact fr i hi
  obtain ⟨b', bs, rfl, hb, hS⟩ := hv.good g
  have kt : KeepT H H10 := fun y xs => ⟨fun e => I10.kp y _ e (fun z => by rw [z, ho] at e; exact HO.noConfusion (Option.some.inj e)), fun o e => I10.kp y _ e (fun z => by rw [z, ho] at e; exact HO.noConfusion (Option.some.inj e))⟩
  refine ⟨_, rfl, a, dx, _, rfl, TA.ob, stF_grow _ _, _, rfl, (by show 0 ≤ sizeLine; decide), fun t1 ht1 => ?_⟩
  have s1 : Same H10 (upd H10 t1 (.tup [])) := same_new ht1
  refine ⟨_, rfl, a, b', t1, dx, bs, t, t, [], .ref b', L, fun _ => [], rfl, TA.same s1, same_sqt s1 (kt_sqt kt hb), (hS.keep kt).keep (KeepT.of_same s1), SqT.of upd_same, sub_nil t, q1b, q1a, (by decide), fun i _ => ?_, fun H' S' TA' K' G' => q1c H' L S' TA' (fun y o e hy => ?_) (fun i hi => ?_) fr'⟩
  · unfold start
    rw [idx_nil, low_nil]
    split <;> rfl
  · refine K' y o (s1 _ _ (I10.kp y o e hy)) fun i hi z => ?_
    rw [z, fr' i hi] at e
    exact nomatch e
  · obtain ⟨R, eR, pR⟩ := G' i hi
    rw [eR]
    have e : (aof i t).map (([] : Ad) ++ ·) = aof i t := by simp
    rw [← e]
    exact pR
end
end K23
set_option Elab.async false
set_option linter.all false
set_option maxRecDepth 100000
set_option maxHeartbeats 4000000
namespace K23
open PySem PySem.Spec PyProof.Rows L2 Dt
/-! ### data of any kind -/
def kindOf : PyData → String
  | .none => "NoneType" | .bool _ => "bool" | .int _ => "int" | .str _ => "str" | .tuple _ => "tuple" | _ => "list"
theorem kind_dp {K : PySem.W.Frag} {H : Hp} {v : V} {d : PyData} (h : Dp K H v d) : KindV K H v (kindOf d) := by
  cases h with
  | non => exact kind_non
  | bl b => exact kind_bl b
  | int i => exact kind_int i
  | str s => exact kind_str s
  | lst h _ =>
    refine ⟨?_, by simp [kindOf]⟩
    rcases h with (h | ⟨o, h⟩) | ⟨o, its, n, h1, h2, _⟩
    · exact .base (.lst h)
    · exact .base (.frz h)
    · exact .kList h1 h2
  | tup h _ => exact kind_sqt h
def numOf : PyData → Option Int | .int i => some i | _ => none
theorem num_dp {K : PySem.W.Frag} {H : Hp} {v : V} {d : PyData} (h : Dp K H v d) : NumV K H v (numOf d) := by
  have k := kind_dp h
  cases h with
  | int i => exact rfl
  | non => exact ⟨_, k, by decide⟩
  | bl b => exact ⟨_, k, by simp [kindOf]⟩
  | str s => exact ⟨_, k, by simp [kindOf]⟩
  | lst h _ => exact ⟨_, k, by simp [kindOf]⟩
  | tup h _ => exact ⟨_, k, by simp [kindOf]⟩
theorem dps_at {K : PySem.W.Frag} {H : Hp} : ∀ {vs : List V} {ds : List PyData}, DpAll K H vs ds → ∀ {i : Nat} {v : V}, vs[i]? = some v → ∃ d, ds[i]? = some d ∧ Dp K H v d
  | _, _, .nil, i, d, h => by simp at h
  | _, _, .cons h q, 0, d, e => by
    obtain rfl := Option.some.inj e
    exact ⟨_, rfl, h⟩
  | _, _, .cons h q, i + 1, d, e => dps_at q (i := i) (v := d) (by simpa using e)
theorem dps_len {K : PySem.W.Frag} {H : Hp} : ∀ {vs : List V} {ds : List PyData}, DpAll K H vs ds → vs.length = ds.length
  | _, _, .nil => rfl
  | _, _, .cons h q => congrArg (· + 1) (dps_len q)
mutual
theorem dp_same {K : PySem.W.Frag} {H H' : Hp} (e : Same H H') : ∀ {v : V} {d : PyData}, Dp K H v d → Dp K H' v d
  | _, _, .non => .non
  | _, _, .bl b => .bl b
  | _, _, .int i => .int i
  | _, _, .str z => .str z
  | _, _, .lst h q => .lst (e.seq h) (dps_same e q)
  | _, _, .tup h q => .tup (same_sqt e h) (dps_same e q)
theorem dps_same {K : PySem.W.Frag} {H H' : Hp} (e : Same H H') : ∀ {v : List V} {d : List PyData}, DpAll K H v d → DpAll K H' v d
  | _, _, .nil => .nil
  | _, _, .cons h q => .cons (dp_same e h) (dps_same e q)
end
theorem kind_tup_not {d : PyData} (h : ∀ ds, d ≠ .tuple ds) : (kindOf d == "tuple") = false := by
  cases d with
  | tuple ds => exact absurd rfl (h ds)
  | none => decide
  | bool _ => simp [kindOf]
  | int _ => simp [kindOf]
  | str _ => simp [kindOf]
  | list _ => simp [kindOf]
  | dict _ => simp [kindOf]
/-! ### is_rank -/
def rankB : Int := 1606938044258990275541962092341162602522202993782792835301376
def partB (d : PyData) : Bool := match numOf d with | some i => decide (-rankB < i) && decide (i < rankB) | none => false
def rankOf (d : PyData) : Bool := match d with | .tuple ds => decide (ds.length ≤ 8) && ds.all partB | _ => false
def spRank (K : PySem.W.Frag) : Sp := fun vs H Q _ => ∃ (x : V) (d : PyData), vs = [x] ∧ Dp K H x d ∧ Q (.bl (rankOf d)) H
section
variable {P : Program} {w : World} {K : PySem.W.Frag} {mg : Str → Option Value} {base : Heap}
theorem ok_rank (D : DefAt K mg "is_rank" s_is_rank ["thing"]) (T : Txt K mg) (mk : ∃ t, mg "MOST_INTEGERS" = some (.int 8 t)) (mr : ∃ t, mg "RANK_BOUND" = some (.int rankB t)) (GI : CalX P w K mg base CX0 1 "is_integer" ["thing"] (spInteger K)) : CalX P w K mg base CX0 2 "is_rank" ["thing"] (spRank K) := by
  obtain ⟨tk, mk⟩ := mk
  obtain ⟨tr, mr⟩ := mr
  refine D.ok sc_is_rank (fun vs H Q E h => ?_) (fun f cdv A outer s H vs Q E hr h => ?_)
  · obtain ⟨x, d, rfl, _⟩ := h
    rfl
  obtain ⟨x, d, rfl, hx, q⟩ := h
  refine ⟨_, pss_cons (ps_if (PW.pt (pw_or (pt_not (pt_val (pe_callB call_isi (by rfl) T.isinstance boot_isinstance (pa_cons (pv 0) (pa_cons (pe_bltn (v := .ty "tuple") (by rfl) T.tuple PyProof.Rows.boot_tuple rfl) pa_nil)))))
        (pw_or1 (pt_cmpR op_gt (pe_callB call_len_seq (by rfl) T.len PySem.boot_len (pa_cons (pv 0) pa_nil)) (pe_glob (v := .int 8) (by rfl) mk ⟨_, rfl⟩) (nomark _))))) (pss_one (ps_ret pe_bl)) pss_nil)
    (pss_cons (ps_for PassesOwn.never rfl (pi_tup (pv 0)) (pg_name (i := 1) sc_is_rank.nd rfl (Or.inl rfl))
      (pss_one (ps_if (PW.pt (pw_or (pt_not (pt_val (pe_c0 GI hr (by decide) rfl (pa_cons (pv 1) pa_nil))))
        (pw_or1 (pt_not (pt_chain op_lt op_lt (pe_un un_neg (pe_glob (v := .int rankB) (by rfl) mr ⟨_, rfl⟩)) (pv 1) (pe_glob (v := .int rankB) (by rfl) mr ⟨_, rfl⟩)))))) (pss_one (ps_ret pe_bl)) pss_nil)))
    (pss_one (ps_ret pe_bl))), ?_⟩
  have kx := kind_dp hx
  refine isi_read rfl kx.1 (kit_tup kx.2) ⟨_, rfl, ?_⟩
  by_cases ht : ∃ ds, d = .tuple ds
  · obtain ⟨ds, rfl⟩ := ht
    cases hx with
    | @tup a xs _ hs ha =>
    have hl := dps_len ha
    refine iteF ?_
    refine ⟨_, rfl, a, xs, rfl, .inr hs, _, _, rfl, rfl, _, rfl, ?_⟩
    refine ite2 (fun c => ?_) (fun c => ?_)
    · have c' : (8 : Int) < (xs.length : Int) := of_decide_eq_true c
      have e : rankOf (.tuple ds) = false := by
        show (decide (ds.length ≤ 8) && ds.all partB) = false
        rw [decide_eq_false (by omega)]
        rfl
      rw [e] at q
      exact q
    · have c' : ¬ (8 : Int) < (xs.length : Int) := fun z => c (decide_eq_true z)
      refine ⟨_, rfl, a, rfl, ⟨_, hs⟩, for_tup (K := K) (a := a) (xs := xs) (fun i σ H' => ∃ o1, σ = [some (.ref a), o1] ∧ H' = H ∧ (ds.take i).all partB = true) ⟨none, rfl, rfl, rfl⟩ (fun i σ H' _ ⟨_, _, e, _⟩ => by rw [e]; exact hs) ?_ ?_⟩
      · rintro i y σ H' hi ⟨o1, rfl, rfl, hg⟩
        obtain ⟨e, he, hy⟩ := dps_at ha hi
        have hil := (List.getElem?_eq_some_iff.mp he).1
        have et : ds.take (i + 1) = ds.take i ++ [e] := by rw [List.take_add_one, he]; rfl
        have bad : partB e = false → rankOf (.tuple ds) = false := fun z => by
          show (decide (ds.length ≤ 8) && ds.all partB) = false
          have : ds.all partB = false := List.all_eq_false.mpr ⟨e, List.mem_of_getElem? he, by rw [z]; simp⟩
          rw [this, Bool.and_false]
        have good : partB e = true → (ds.take (i + 1)).all partB = true := fun z => by
          rw [et, List.all_append, hg]
          simp [z]
        refine ⟨_, rfl, y, numOf e, rfl, num_dp hy, ⟨_, rfl, ?_⟩⟩
        cases hn : numOf e with
        | none =>
          refine iteT (iteT ?_)
          rw [bad (by unfold partB; rw [hn])] at q
          exact q
        | some z =>
          refine iteF ?_
          have hyz : y = .int z := by
            have := num_dp hy
            rw [hn] at this
            exact this
          subst hyz
          have ep : partB e = (decide (-rankB < z) && decide (z < rankB)) := by unfold partB; rw [hn]
          refine ⟨_, rfl, _, rfl, _, _, rfl, rfl, _, rfl, ?_⟩
          refine ite2 (fun c1 => ?_) (fun c1 => ?_)
          · have c1' : -rankB < z := of_decide_eq_true c1
            refine ⟨_, _, rfl, rfl, _, rfl, ?_⟩
            by_cases c2 : z < rankB
            · have e2 : (decide (z < rankB)) = true := decide_eq_true c2
              rw [e2]
              refine iteF ?_
              exact ⟨_, rfl, rfl, good (by rw [ep, decide_eq_true c1', e2]; rfl)⟩
            · have e2 : (decide (z < rankB)) = false := decide_eq_false c2
              rw [e2]
              refine iteT ?_
              rw [bad (by rw [ep, e2, Bool.and_false])] at q
              exact q
          · have c1' : ¬ -rankB < z := fun y => c1 (decide_eq_true y)
            refine ⟨_, rfl, ?_⟩
            refine iteT ?_
            rw [bad (by rw [ep, decide_eq_false c1']; rfl)] at q
            exact q
      · rintro σ H' ⟨o1, rfl, rfl, hg⟩
        rw [hl, List.take_length] at hg
        have e : rankOf (.tuple ds) = true := by
          show (decide (ds.length ≤ 8) && ds.all partB) = true
          rw [hg, decide_eq_true (by omega)]
          rfl
        rw [e] at q
        exact q
  · have e : (kindOf d == "tuple") = false := kind_tup_not fun ds z => ht ⟨ds, z⟩
    rw [e]
    refine iteT (iteT ?_)
    have e2 : rankOf d = false := by
      cases d with
      | tuple ds => exact absurd ⟨ds, rfl⟩ ht
      | _ => rfl
    rw [e2] at q
    exact q
end
end K23
set_option Elab.async false
set_option linter.all false
set_option maxRecDepth 100000
set_option maxHeartbeats 4000000
namespace K23
open PySem PySem.Spec PyProof.Rows L2 Dt
/-! ### the order of ranks -/
theorem lexAt_shift (e r : Nat → Bool) (z : Bool) : ∀ k i, Ob.lexAt e r z (i + 1) k = Ob.lexAt (fun j => e (j + 1)) (fun j => r (j + 1)) z i k
  | 0, _ => rfl
  | k + 1, i => by
    rw [Ob.lexAt_succ, Ob.lexAt_succ, lexAt_shift e r z k (i + 1)]
theorem le_lex : ∀ ns ms : List Int, Ob.lexAt (fun j => decide (ns.getD j 0 = ms.getD j 0)) (fun j => decide (ns.getD j 0 ≤ ms.getD j 0)) (decide (ns.length ≤ ms.length)) 0 (min ns.length ms.length) = !HT.lexLt ms ns
  | [], ms => by
    have e : min ([] : List Int).length ms.length = 0 := by simp
    rw [e, Ob.lexAt_zero]
    cases ms with
    | nil => rfl
    | cons y ms => rfl
  | n :: ns, [] => by
    have e : min (n :: ns).length ([] : List Int).length = 0 := by simp
    rw [e, Ob.lexAt_zero]
    show decide ((n :: ns).length ≤ 0) = !(HT.lexLt [] (n :: ns))
    rw [HT.lexLt_nil_cons]
    exact decide_eq_false (by simp)
  | n :: ns, m :: ms => by
    have e : min (n :: ns).length (m :: ms).length = min ns.length ms.length + 1 := by
      rw [List.length_cons, List.length_cons]
      omega
    have ih := le_lex ns ms
    rw [e, Ob.lexAt_succ, HT.lexLt_cons]
    show (if decide (n = m) = true then Ob.lexAt _ _ _ (0 + 1) (min ns.length ms.length) else decide (n ≤ m)) = _
    by_cases h : n = m
    · rw [if_pos (decide_eq_true h), if_pos h.symm, lexAt_shift, ← ih]
      have el : decide ((n :: ns).length ≤ (m :: ms).length) = decide (ns.length ≤ ms.length) := decide_eq_decide.mpr (by rw [List.length_cons, List.length_cons]; omega)
      rw [el]
      rfl
    · rw [if_neg (by rw [decide_eq_false h]; simp), if_neg (Ne.symm h)]
      by_cases h2 : n ≤ m
      · rw [decide_eq_true h2, decide_eq_false (show ¬ m < n by omega)]; rfl
      · rw [decide_eq_false h2, decide_eq_true (show m < n by omega)]; rfl
/-- the numbers of a rank -/
def rkInts : PyData → List Int | .tuple ds => ds.filterMap numOf | _ => []
theorem rank_ints {K : PySem.W.Frag} {H : Hp} : ∀ {xs : List V} {ds : List PyData}, DpAll K H xs ds → ds.all partB = true → xs = (ds.filterMap numOf).map V.int
  | _, _, .nil, _ => rfl
  | _, _, @DpAll.cons _ _ v vs d ds h q, g => by
    rw [List.all_cons, Bool.and_eq_true] at g
    have h2 := rank_ints q g.2
    have g1 := g.1
    unfold partB at g1
    have hn := num_dp h
    cases e : numOf d with
    | none =>
      rw [e] at g1
      exact nomatch g1
    | some i =>
      rw [e] at hn
      have hv : v = .int i := hn
      rw [List.filterMap_cons_some e, List.map_cons, ← h2, hv]
theorem rank_sqt {K : PySem.W.Frag} {H : Hp} {x : V} {d : PyData} (h : Dp K H x d) (g : rankOf d = true) : ∃ a, x = .ref a ∧ SqT K H a ((rkInts d).map V.int) := by
  cases h with
  | @tup a xs ds hs ha =>
    have g' : (decide (ds.length ≤ 8) && ds.all partB) = true := g
    rw [Bool.and_eq_true] at g'
    refine ⟨a, rfl, ?_⟩
    show SqT K H a ((ds.filterMap numOf).map V.int)
    rw [← rank_ints ha g'.2]
    exact hs
  | _ => exact nomatch g
/-! ### is_line -/
def lineGo (last : List Int) : List PyData → Bool
  | [] => true
  | .tuple [rk, _] :: r => rankOf rk && !HT.lexLt (rkInts rk) last && lineGo (rkInts rk) r
  | _ => false
def lineOf : PyData → Bool | .tuple ds => lineGo [] ds | _ => false
def spLine (K : PySem.W.Frag) : Sp := fun vs H Q _ => ∃ (x : V) (d : PyData), vs = [x] ∧ Dp K H x d ∧ ∀ H', Same H H' → Q (.bl (lineOf d)) H'
theorem lineGo_pair (last : List Int) (rk it : PyData) (r : List PyData) : lineGo last (.tuple [rk, it] :: r) = (rankOf rk && !HT.lexLt (rkInts rk) last && lineGo (rkInts rk) r) := by
  rw [lineGo]
theorem lineGo_bad (last : List Int) (e : PyData) (r : List PyData) (h : ∀ rk it, e ≠ .tuple [rk, it]) : lineGo last (e :: r) = false := by
  cases e with
  | tuple ds =>
    match ds, h with
    | [], _ => simp [lineGo]
    | [d1], _ => simp [lineGo]
    | [d1, d2], h => exact absurd rfl (h d1 d2)
    | d1 :: d2 :: d3 :: l, _ => simp [lineGo]
  | _ => simp [lineGo]
section
variable {P : Program} {w : World} {K : PySem.W.Frag} {mg : Str → Option Value} {base : Heap}
theorem ok_line (D : DefAt K mg "is_line" s_is_line ["thing"]) (T : Txt K mg) (GR : CalX P w K mg base CX0 2 "is_rank" ["thing"] (spRank K)) : CalX P w K mg base CX0 3 "is_line" ["thing"] (spLine K) := by
  refine D.ok sc_is_line (fun vs H Q E h => ?_) (fun f cdv A outer s H vs Q E hr h => ?_)
  · obtain ⟨x, d, rfl, _⟩ := h
    rfl
  obtain ⟨x, d, rfl, hx, q⟩ := h
  refine ⟨_, pss_cons (ps_if (pt_not (pt_val (pe_callB call_isi (by rfl) T.isinstance boot_isinstance (pa_cons (pv 0) (pa_cons (pe_bltn (v := .ty "tuple") (by rfl) T.tuple PyProof.Rows.boot_tuple rfl) pa_nil))))) (pss_one (ps_ret pe_bl)) pss_nil)
    (pss_cons (ps_set (i := 1) sc_is_line.nd rfl (.inl rfl) (pe_tup pa_nil))
    (pss_cons (ps_for PassesOwn.never rfl (pi_tup (pv 0)) (pg_name (i := 2) sc_is_line.nd rfl (Or.inl rfl))
      (pss_cons (ps_if (PW.pt (pw_or (pt_not (pt_val (pe_callB call_isi (by rfl) T.isinstance boot_isinstance (pa_cons (pv 2) (pa_cons (pe_bltn (v := .ty "tuple") (by rfl) T.tuple PyProof.Rows.boot_tuple rfl) pa_nil)))))
          (pw_or1 (pt_cmpR op_ne (pe_callB call_len_seq (by rfl) T.len PySem.boot_len (pa_cons (pv 2) pa_nil)) pe_int (nomark _))))) (pss_one (ps_ret pe_bl)) pss_nil)
      (pss_cons (ps_set (i := 3) sc_is_line.nd rfl (.inl rfl) (pe_ix ix_tup (pv 2) pe_int (fun _ _ => rfl)))
      (pss_cons (ps_if (PW.pt (pw_or (pt_not (pt_val (pe_c0 GR hr (by decide) rfl (pa_cons (pv 3) pa_nil)))) (pw_or1 (pt_cmpR (op_ltT hr.units0) (pv 3) (pv 1) (nomark _))))) (pss_one (ps_ret pe_bl)) pss_nil)
      (pss_one (ps_set (i := 1) sc_is_line.nd rfl (.inl rfl) (pv 3)))))))
    (pss_one (ps_ret pe_bl)))), ?_⟩
  have kx := kind_dp hx
  have sH : Same H H := fun _ _ z => z
  refine isi_read rfl kx.1 (kit_tup kx.2) ⟨_, rfl, ?_⟩
  by_cases ht : ∃ ds, d = .tuple ds
  · obtain ⟨ds, rfl⟩ := ht
    cases hx with
    | @tup a xs _ hs ha =>
    have hl := dps_len ha
    refine iteF ?_
    refine ⟨(by show 0 ≤ sizeLine; decide), fun t0 ht0 => ?_⟩
    have s0 : Same H (upd H t0 (.tup [])) := same_new ht0
    have h0 : (upd H t0 (.tup [])) t0 = some (.tup []) := upd_same
    revert s0 h0
    generalize upd H t0 (.tup []) = H1
    intro s0 h0
    have hs1 := same_sqt s0 hs
    refine ⟨_, rfl, a, rfl, ⟨_, hs1⟩, for_tup (K := K) (a := a) (xs := xs) (fun i σ H' => ∃ (lastA : Addr) (last : List Int) (o2 o3 : Option V), σ = [some (.ref a), some (.ref lastA), o2, o3] ∧ H' = H1 ∧ SqT K H1 lastA (last.map V.int) ∧ lineGo [] ds = lineGo last (ds.drop i))
      ⟨t0, [], none, none, rfl, rfl, SqT.of h0, by rw [List.drop_zero]⟩ (fun i σ H' _ ⟨_, _, _, _, _, e, _⟩ => by rw [e]; exact hs1) ?_ ?_⟩
    · rintro i y σ H' hi ⟨lastA, last, o2, o3, rfl, rfl, hlast, hgo⟩
      obtain ⟨e, he, hy⟩ := dps_at ha hi
      have hil := (List.getElem?_eq_some_iff.mp he).1
      have ed : ds.drop i = e :: ds.drop (i + 1) := by
        rw [List.drop_eq_getElem_cons hil]
        congr 1
        rw [List.getElem?_eq_getElem hil] at he
        exact Option.some.inj he
      rw [ed] at hgo
      have hy1 : Dp K H' y e := by
        have : ∀ {v : V} {d : PyData}, Dp K H v d → Dp K H' v d := fun h => dp_same s0 h
        exact this hy
      have ky := kind_dp hy1
      refine isi_read rfl ky.1 (kit_tup ky.2) ⟨_, rfl, ?_⟩
      have bad : lineGo last (e :: ds.drop (i + 1)) = false → Q (.bl false) H' := fun z => by
        have := q H' s0
        rw [show lineOf (.tuple ds) = false from hgo.trans z] at this
        exact this
      by_cases hte : ∃ es, e = .tuple es
      · obtain ⟨es, rfl⟩ := hte
        cases hy1 with
        | @tup b ys _ hsb hab =>
        have hlb := dps_len hab
        refine iteF ?_
        refine ⟨_, rfl, b, ys, rfl, .inr hsb, rfl, _, rfl, ?_⟩
        refine ite2 (fun c => ?_) (fun c => ?_)
        · refine bad (lineGo_bad _ _ _ fun rk it z => ?_)
          injection z with z
          rw [z] at hlb
          have hy2 : ys.length = 2 := hlb
          have c2 : (!decide (V.int (ys.length : Nat) = V.int 2)) = true := c
          rw [hy2] at c2
          exact absurd c2 (by decide)
        · have hy2 : ys.length = 2 := by
            by_cases z : ys.length = 2
            · exact z
            · exfalso
              apply c
              show (!decide (V.int (ys.length : Nat) = V.int 2)) = true
              rw [decide_eq_false (fun y => z (by injection y with y; omega))]
              rfl
          cases hab with
          | nil => exact nomatch hy2
          | @cons v1 vr d1 dr h1 hr1 =>
          cases hr1 with
          | nil => exact nomatch hy2
          | @cons v2 vr2 d2 dr2 h2 hr2 =>
          cases hr2 with
          | cons _ _ =>
            have : 3 ≤ 2 := by
              rw [← hy2]
              simp
            exact absurd this (by decide)
          | nil =>
            refine ⟨_, rfl, b, [v1, v2], 0, v1, rfl, rfl, hsb, rfl, ?_⟩
            refine ⟨_, rfl, v1, d1, rfl, h1, _, rfl, ?_⟩
            have eg := lineGo_pair last d1 d2 (ds.drop (i + 1))
            cases hrk : rankOf d1 with
            | false =>
              refine iteT (iteT ?_)
              exact bad (by rw [eg, hrk]; rfl)
            | true =>
              refine iteF ?_
              obtain ⟨ra, rfl, hra⟩ := rank_sqt h1 hrk
              refine ⟨_, rfl, _, rfl, ra, lastA, rkInts d1, last, rfl, rfl, hra, hlast, _, rfl, ?_⟩
              cases hlt : HT.lexLt (rkInts d1) last with
              | true =>
                refine iteT ?_
                exact bad (by rw [eg, hrk, hlt]; rfl)
              | false =>
                refine iteF ?_
                exact ⟨_, rfl, ra, rkInts d1, _, _, rfl, rfl, hra, by rw [hgo, eg, hrk, hlt]; rfl⟩
      · have e0 : (kindOf e == "tuple") = false := kind_tup_not fun ds z => hte ⟨ds, z⟩
        rw [e0]
        refine iteT (iteT ?_)
        exact bad (lineGo_bad _ _ _ fun rk it z => hte ⟨_, z⟩)
    · rintro σ H' ⟨lastA, last, o2, o3, rfl, rfl, hlast, hgo⟩
      rw [hl, List.drop_length] at hgo
      have := q H' s0
      rw [show lineOf (.tuple ds) = true from hgo] at this
      exact this
  · have e : (kindOf d == "tuple") = false := kind_tup_not fun ds z => ht ⟨ds, z⟩
    rw [e]
    refine iteT ?_
    have e2 : lineOf d = false := by
      cases d with
      | tuple ds => exact absurd ⟨ds, rfl⟩ ht
      | _ => rfl
    have := q H sH
    rw [e2] at this
    exact this
end
end K23
set_option Elab.async false
set_option linter.all false
set_option maxRecDepth 100000
set_option maxHeartbeats 4000000
namespace K23
open PySem PySem.Spec PyProof.Rows L2 Dt
/-! ### lines as they stand -/
/-- the rank of an entry, as numbers -/
def enInts : PyData → List Int | .tuple [rk, _] => rkInts rk | _ => []
def rksOf (ds : List PyData) : List (List Int) := ds.map enInts
def IsEn (d : PyData) : Prop := ∃ rk it, d = .tuple [rk, it] ∧ rankOf rk = true
theorem line_facts : ∀ (ds : List PyData) (last : List Int), lineGo last ds = true → (∀ d ∈ ds, IsEn d) ∧ (rksOf ds).Pairwise (fun p q => HT.lexLt q p = false) ∧ ∀ r ∈ rksOf ds, HT.lexLt r last = false
  | [], last, _ => ⟨(fun d h => by simp at h), List.Pairwise.nil, (fun r h => by simp [rksOf] at h)⟩
  | e :: ds, last, g => by
    by_cases he : ∃ rk it, e = .tuple [rk, it]
    · obtain ⟨rk, it, rfl⟩ := he
      rw [lineGo_pair] at g
      simp only [Bool.and_eq_true, Bool.not_eq_true'] at g
      obtain ⟨⟨g1, g2⟩, g3⟩ := g
      obtain ⟨h1, h2, h3⟩ := line_facts ds (rkInts rk) g3
      refine ⟨fun d hd => ?_, ?_, fun r hr => ?_⟩
      · rcases List.mem_cons.mp hd with rfl | hd
        · exact ⟨rk, it, rfl, g1⟩
        · exact h1 d hd
      · exact List.pairwise_cons.mpr ⟨fun r hr => h3 r hr, h2⟩
      · rcases List.mem_cons.mp (show r ∈ rkInts rk :: rksOf ds from hr) with rfl | hr
        · exact g2
        · exact NtL.lex_tr _ _ _ g2 (h3 r hr)
    · rw [lineGo_bad last e ds fun rk it z => he ⟨rk, it, z⟩] at g
      exact nomatch g
/-- p is where r goes: behind all that are not greater -/
structure PlaceIs (rs : List (List Int)) (r : List Int) (p : Nat) : Prop where
  le : p ≤ rs.length
  lo : ∀ i s, i < p → rs[i]? = some s → HT.lexLt r s = false
  hi : ∀ i s, p ≤ i → rs[i]? = some s → HT.lexLt r s = true
def spBehind (K : PySem.W.Frag) : Sp := fun vs H Q _ => ∃ (x y : V) (ds : List PyData) (rk : PyData), vs = [x, y] ∧ Dp K H x (.tuple ds) ∧ Dp K H y rk ∧ lineOf (.tuple ds) = true ∧ rankOf rk = true ∧ ds.length ≤ 1000000 ∧ ∀ p, PlaceIs (rksOf ds) (rkInts rk) p → Q (.int (p : Nat)) H
section
variable {P : Program} {w : World} {K : PySem.W.Frag} {mg : Str → Option Value} {base : Heap}
theorem ok_behind (D : DefAt K mg "place_behind" s_place_behind ["line", "rank"]) (T : Txt K mg) : CalX P w K mg base CX0 1 "place_behind" ["line", "rank"] (spBehind K) := by
  refine D.ok sc_place_behind (fun vs H Q E h => ?_) (fun f cdv A outer s H vs Q E hr h => ?_)
  · obtain ⟨x, y, ds, rk, rfl, _⟩ := h
    rfl
  obtain ⟨x, y, ds, rk, rfl, hx, hy, hline, hrk, hn, q⟩ := h
  obtain ⟨hen, hpw, _⟩ := line_facts ds [] hline
  obtain ⟨rb, rfl, hrb⟩ := rank_sqt hy hrk
  cases hx with
  | @tup a xs _ hs ha =>
  have hl := dps_len ha
  have hlr : (rksOf ds).length = ds.length := by simp [rksOf]
  refine ⟨_, pss_cons (ps_set (i := 2) sc_place_behind.nd rfl (.inl rfl) pe_int)
    (pss_cons (ps_set (i := 3) sc_place_behind.nd rfl (.inl rfl) (pe_callB call_len_seq (by rfl) T.len PySem.boot_len (pa_cons (pv 0) pa_nil)))
    (pss_cons (ps_while PassesOwn.never (pt_cmpR op_lt (pv 2) (pv 3) (nomark _))
      (pss_cons (ps_set (i := 4) sc_place_behind.nd rfl (.inl rfl) (pe_op op_fdiv (pe_op op_add (pv 2) (pv 3)) pe_int))
      (pss_one (ps_if (pt_cmpR (op_leT hr.units0) (pe_ix ix_tup (pe_ix ix_tup (pv 0) (pv 4) (fun _ _ => rfl)) pe_int (fun _ _ => rfl)) (pv 1) (nomark _))
        (pss_one (ps_set (i := 2) sc_place_behind.nd rfl (.inl rfl) (pe_op op_add (pv 4) pe_int)))
        (pss_one (ps_set (i := 3) sc_place_behind.nd rfl (.inl rfl) (pv 4)))))))
    (pss_one (ps_ret (pv 2))))), ?_⟩
  refine ⟨_, rfl, a, xs, rfl, .inr hs, ?_⟩
  rw [hl]
  refine ⟨fun m σ H' => ∃ (lo hi : Nat) (o4 : Option V), σ = [some (.ref a), some (.ref rb), some (.int (lo : Nat)), some (.int (hi : Nat)), o4] ∧ H' = H ∧ m = hi - lo ∧ lo ≤ hi ∧ hi ≤ ds.length ∧
    (∀ i s, i < lo → (rksOf ds)[i]? = some s → HT.lexLt (rkInts rk) s = false) ∧ (∀ i s, hi ≤ i → (rksOf ds)[i]? = some s → HT.lexLt (rkInts rk) s = true),
    ⟨ds.length, 0, ds.length, none, rfl, rfl, rfl, Nat.zero_le _, Nat.le_refl _, (fun i s h => absurd h (Nat.not_lt_zero _)), fun i s h e => absurd (List.getElem?_eq_some_iff.mp e).1 (by omega)⟩, ?_⟩
  rintro m σ H' ⟨lo, hi, o4, rfl, rfl, rfl, h1, h2, h3, h4⟩
  refine ⟨_, rfl, _, rfl, _, _, rfl, rfl, _, rfl, ?_⟩
  refine ite2 (fun c => ?_) (fun c => ?_)
  · have c' : ((lo : Nat) : Int) < (hi : Nat) := of_decide_eq_true c
    refine ⟨_, fun _ _ z => z, ?_⟩
    refine ⟨_, rfl, _, rfl, _, _, rfl, rfl, _, _, rfl, rfl, ⟨by decide, by decide⟩, ?_⟩
    have em : (((lo : Nat) : Int) + (hi : Nat)) / 2 = (((lo + hi) / 2 : Nat) : Int) := by omega
    have em2 : V.int ((((lo : Nat) : Int) + (hi : Nat)) / 2) = V.int (((lo + hi) / 2 : Nat) : Int) := by rw [em]
    rw [show ((fun i j => V.int (i / j)) (((lo : Nat) : Int) + (hi : Nat)) 2) = V.int (((lo + hi) / 2 : Nat) : Int) from em2]
    have hmid : (lo + hi) / 2 < ds.length := by omega
    generalize hme : (lo + hi) / 2 = mid at hmid
    have hxm : mid < xs.length := by omega
    obtain ⟨e, he, hxe⟩ := dps_at ha (List.getElem?_eq_getElem hxm)
    obtain ⟨rk', it, rfl, hrk'⟩ := hen e (List.mem_of_getElem? he)
    have hrs : (rksOf ds)[mid]? = some (rkInts rk') := by
      unfold rksOf
      rw [List.getElem?_map, he]
      rfl
    generalize hxv : xs[mid] = xv at hxe
    cases hxe with
    | @tup b ys _ hsb hab =>
    cases hab with
    | @cons v1 vr d1 dr g1 gr =>
    obtain ⟨ra, rfl, hra⟩ := rank_sqt g1 hrk'
    have hxat : xs[mid]? = some (.ref b) := by rw [List.getElem?_eq_getElem hxm, hxv]
    refine ⟨_, rfl, _, rfl, a, xs, _, _, rfl, rfl, hs, atI_nat hxat, b, (V.ref ra :: vr), 0, V.ref ra, rfl, rfl, hsb, (show atI (V.ref ra :: vr) ((0 : Nat) : Int) = some (V.ref ra) from atI_nat rfl), _, rfl, ra, rb, rkInts rk', rkInts rk, rfl, rfl, hra, hrb, _, rfl, ?_⟩
    rw [le_lex]
    have mono : ∀ i s j t, i < j → (rksOf ds)[i]? = some s → (rksOf ds)[j]? = some t → HT.lexLt t s = false := fun i s j t hij e1 e2 => by
      obtain ⟨l1, e1'⟩ := List.getElem?_eq_some_iff.mp e1
      obtain ⟨l2, e2'⟩ := List.getElem?_eq_some_iff.mp e2
      rw [← e1', ← e2']
      exact List.pairwise_iff_getElem.mp hpw i j l1 l2 hij
    cases hc : HT.lexLt (rkInts rk) (rkInts rk') with
    | false =>
      refine iteT ?_
      refine ⟨_, rfl, _, _, rfl, rfl, ?_⟩
      refine ⟨hi - (mid + 1), by omega, mid + 1, hi, _, rfl, rfl, rfl, by omega, h2, fun i s hi2 e1 => ?_, h4⟩
      by_cases z : i = mid
      · subst z
        rw [hrs] at e1
        rw [← Option.some.inj e1]
        exact hc
      · exact NtL.lex_tr _ _ _ (mono i s mid _ (by omega) e1 hrs) hc
    | true =>
      refine iteF ?_
      refine ⟨_, rfl, ?_⟩
      refine ⟨mid - lo, by omega, lo, mid, _, rfl, rfl, rfl, by omega, by omega, h3, fun i s hi2 e1 => ?_⟩
      by_cases z : i = mid
      · subst z
        rw [hrs] at e1
        rw [← Option.some.inj e1]
        exact hc
      · cases hq : HT.lexLt (rkInts rk) s with
        | true => rfl
        | false =>
          have z2 : HT.lexLt (rkInts rk) (rkInts rk') = false := NtL.lex_tr (rkInts rk') s (rkInts rk) (mono mid _ i s (by omega) hrs e1) hq
          rw [hc] at z2
          exact nomatch z2
  · have c' : ¬ ((lo : Nat) : Int) < (hi : Nat) := fun z => c (decide_eq_true z)
    have e : lo = hi := by omega
    subst e
    exact ⟨_, rfl, q lo ⟨by omega, h3, h4⟩⟩
end
end K23
set_option Elab.async false
set_option linter.all false
set_option maxRecDepth 100000
set_option maxHeartbeats 4000000
namespace K23
open PySem PySem.Spec PyProof.Rows L2 Dt
/-! ### copied -/
/-- lists, tuples and atoms, nested less than n deep, of at most 1000 parts each -/
def plainN : Nat → PyData → Prop
  | 0, _ => False
  | _ + 1, .none => True
  | _ + 1, .bool _ => True
  | _ + 1, .int _ => True
  | _ + 1, .str _ => True
  | n + 1, .tuple ds => ds.length ≤ 1000 ∧ ∀ d ∈ ds, plainN n d
  | n + 1, .list ds => ds.length ≤ 1000 ∧ ∀ d ∈ ds, plainN n d
  | _, _ => False
theorem dps_snoc {K : PySem.W.Frag} {H : Hp} : ∀ {vs : List V} {ds : List PyData} {v : V} {d : PyData}, DpAll K H vs ds → Dp K H v d → DpAll K H (vs ++ [v]) (ds ++ [d])
  | _, _, _, _, .nil, h => .cons h .nil
  | _, _, _, _, .cons r t, h => .cons r (dps_snoc t h)
mutual
theorem dp_off {K : PySem.W.Frag} {H : Hp} {l : Addr} (hl : H l = none) {H' : Hp} (e : Same H H') (u : HO) : ∀ {v : V} {d : PyData}, Dp K H v d → Dp K (upd H' l u) v d
  | _, _, .non => .non
  | _, _, .bl b => .bl b
  | _, _, .int i => .int i
  | _, _, .str z => .str z
  | _, _, .lst h q => .lst ((same_mut e hl).seq h) (dps_off hl e u q)
  | _, _, .tup h q => .tup (same_sqt (same_mut e hl) h) (dps_off hl e u q)
theorem dps_off {K : PySem.W.Frag} {H : Hp} {l : Addr} (hl : H l = none) {H' : Hp} (e : Same H H') (u : HO) : ∀ {v : List V} {d : List PyData}, DpAll K H v d → DpAll K (upd H' l u) v d
  | _, _, .nil => .nil
  | _, _, .cons h q => .cons (dp_off hl e u h) (dps_off hl e u q)
end
/-- y's data rests on objects alone that are not in H -/
def DpF (K : PySem.W.Frag) (H H' : Hp) (y : V) (d : PyData) : Prop := ∀ H2, (∀ b u, H b = none → H' b = some u → H2 b = some u) → Dp K H2 y d
theorem DpF.dp {K : PySem.W.Frag} {H H' : Hp} {y : V} {d : PyData} (h : DpF K H H' y d) : Dp K H' y d := h H' fun _ _ _ e => e
def spCopied (K : PySem.W.Frag) (n : Nat) : Sp := fun vs H Q _ => ∃ (x : V) (d : PyData), vs = [x] ∧ Dp K H x d ∧ plainN n d ∧ ∀ H' y, Same H H' → DpF K H H' y d → Q y H'
theorem kit_list {t : String} (h : t = "int" ∨ t = "bool" ∨ t = "NoneType" ∨ t = "str" ∨ t = "tuple" ∨ t = "list") : kitB t "list" = some (t == "list") := by
  rcases h with rfl | rfl | rfl | rfl | rfl | rfl <;> decide +kernel
/-- the copies of the first parts, made while D holds them -/
def Made (K : PySem.W.Frag) (H H' : Hp) (D : Addr) (acc : List V) (ds : List PyData) : Prop := ∀ H2, (∀ b u, H b = none → b ≠ D → H' b = some u → H2 b = some u) → DpAll K H2 acc ds
section
variable {P : Program} {w : World} {K : PySem.W.Frag} {mg : Str → Option Value} {base : Heap}
theorem Made.step {H H1 H2 : Hp} {D : Addr} {acc : List V} {ds : List PyData} {y : V} {d : PyData} (s : Same H H1) (hD : H1 D = some (.lst acc)) (s2 : Same H1 H2) (m : Made K H H1 D acc ds) (f : DpF K H1 H2 y d) : Made K H (upd H2 D (.lst (acc ++ [y]))) D (acc ++ [y]) (ds ++ [d]) := by
  intro H3 hk
  refine dps_snoc (m H3 fun b u h1 h2 h3 => hk b u h1 h2 ?_) (f H3 fun b u h1 h2 => ?_)
  · rw [upd_ne h2]
    exact s2 _ _ h3
  · have hb : b ≠ D := fun z => by rw [z, hD] at h1; exact nomatch h1
    exact hk b u (s.free h1) hb (by rw [upd_ne hb]; exact h2)
theorem ok_copied_step {n : Nat} (D : DefAt K mg "copied" s_copied ["thing"]) (T : Txt K mg) (G : CalX P w K mg base CX0 n "copied" ["thing"] (spCopied K n)) : CalX P w K mg base CX0 (n + 1) "copied" ["thing"] (spCopied K (n + 1)) := by
  refine D.ok sc_copied (fun vs H Q E h => ?_) (fun f cdv A outer s H vs Q E hr h => ?_)
  · obtain ⟨x, d, rfl, _⟩ := h
    rfl
  obtain ⟨x, d, rfl, hx, hp, q⟩ := h
  refine ⟨_, pss_cons (ps_if (pt_val (pe_callB call_isi (by rfl) T.isinstance boot_isinstance (pa_cons (pv 0) (pa_cons (pe_bltn (v := .ty "list") (by rfl) T.list (by decide +kernel) rfl) pa_nil))))
      (pss_one (ps_ret (pe_lc (own := [("part", 1)]) (g := gName 1) (tt := tYes) (by rfl) sc_copied.nd (pi_list (pv 0))
        (blkOk_by (own := [("part", 1)]) (N := N_copied) (sc := defScope s_copied) (by decide +kernel)) (fun _ _ _ _ _ => pg_name (i := 1) sc_copied.nd rfl (Or.inl rfl)) (fun _ _ _ _ _ => pts_nil)
        (fun _ _ _ _ _ => by exact (pe_c0 G hr (Nat.le_refl _) rfl (pa_cons (pv 1) pa_nil)))))) pss_nil)
    (pss_cons (ps_if (pt_val (pe_callB call_isi (by rfl) T.isinstance boot_isinstance (pa_cons (pv 0) (pa_cons (pe_bltn (v := .ty "tuple") (by rfl) T.tuple PyProof.Rows.boot_tuple rfl) pa_nil))))
      (pss_one (ps_ret (pe_callTy call_tuple_of (by rfl) T.tuple PyProof.Rows.boot_tuple (pa_cons (pe_lc (own := [("part", 1)]) (g := gName 1) (tt := tYes) (by rfl) sc_copied.nd (pi_tup (pv 0))
        (blkOk_by (own := [("part", 1)]) (N := N_copied) (sc := defScope s_copied) (by decide +kernel)) (fun _ _ _ _ _ => pg_name (i := 1) sc_copied.nd rfl (Or.inl rfl)) (fun _ _ _ _ _ => pts_nil)
        (fun _ _ _ _ _ => by exact (pe_c0 G hr (Nat.le_refl _) rfl (pa_cons (pv 1) pa_nil)))) pa_nil)))) pss_nil)
    (pss_one (ps_ret (pv 0)))), ?_⟩
  have kx := kind_dp hx
  have sH : Same H H := fun _ _ z => z
  have turn : ∀ {xs : List V} {ds : List PyData}, DpAll K H xs ds → (∀ d ∈ ds, plainN n d) → ds.length ≤ 1000 → ∀ (Dl : Addr) (i : Nat) (y : V) (H' : Hp), xs[i]? = some y → Same H H' → ∀ acc, H' Dl = some (.lst acc) → acc.length = i → H Dl = none → Made K H H' Dl acc (ds.take i) →
      ∃ e, Dp K H' y e ∧ plainN n e ∧ ∀ H2 v, Same H' H2 → DpF K H' H2 v e → H2 Dl = some (.lst acc) ∧ acc.length < sizeLine ∧ (Same H (upd H2 Dl (.lst (acc ++ [v]))) ∧ ∃ acc', (upd H2 Dl (.lst (acc ++ [v]))) Dl = some (.lst acc') ∧ acc'.length = i + 1 ∧ Made K H (upd H2 Dl (.lst (acc ++ [v]))) Dl acc' (ds.take (i + 1))) := by
    intro xs ds ha hpl hlen Dl i y H' hi sm acc hD hal hDn hm
    obtain ⟨e, he, hy⟩ := dps_at ha hi
    have hil := (List.getElem?_eq_some_iff.mp he).1
    refine ⟨e, dp_same sm hy, hpl e (List.mem_of_getElem? he), fun H2 v s2 f2 => ⟨s2 _ _ hD, small1000 (by omega), same_mut (sm.trans s2) hDn, acc ++ [v], upd_same, by rw [List.length_append, hal]; rfl, ?_⟩⟩
    rw [List.take_add_one, he]
    exact Made.step sm hD s2 hm f2
  refine isi_read rfl kx.1 (kit_list kx.2) ⟨_, rfl, ?_⟩
  cases hx with
  | @lst a xs ds hs ha =>
    refine iteT ?_
    have hl := dps_len ha
    refine ⟨_, rfl, a, rfl, ⟨_, hs⟩, fun Dl hDl => lc_list (K := K) (a := a) (xs := xs) (fun i H' => Same H H' ∧ ∃ acc, H' Dl = some (.lst acc) ∧ acc.length = i ∧ Made K H H' Dl acc (ds.take i)) ⟨same_new hDl, [], upd_same, rfl, fun _ _ => .nil⟩ (fun i H' _ ⟨sm, _⟩ => sm.seq hs) ?_ ?_⟩
    · rintro i y H' hi ⟨sm, acc, hD, hal, hm⟩
      obtain ⟨e, h1, h2, h3⟩ := turn ha hp.2 hp.1 Dl i y H' hi sm acc hD hal hDl hm
      exact ⟨rfl, _, rfl, y, e, rfl, h1, h2, fun H2 v s2 f2 => ⟨acc, h3 H2 v s2 f2⟩⟩
    · rintro H' ⟨sm, acc, hD, hal, hm⟩
      rw [hl, List.take_length] at hm
      exact q H' (.ref Dl) sm fun H2 hk => .lst (SqL.of (hk Dl _ hDl hD)) (hm H2 fun b u h1 _ h3 => hk b u h1 h3)
  | @tup a xs ds hs ha =>
    refine iteF ?_
    refine isi_read rfl kx.1 (kit_tup kx.2) ⟨_, rfl, ?_⟩
    refine iteT ?_
    have hl := dps_len ha
    refine ⟨_, rfl, a, rfl, ⟨_, hs⟩, fun Dl hDl => lc_tup (K := K) (a := a) (xs := xs) (fun i H' => Same H H' ∧ ∃ acc, H' Dl = some (.lst acc) ∧ acc.length = i ∧ Made K H H' Dl acc (ds.take i)) ⟨same_new hDl, [], upd_same, rfl, fun _ _ => .nil⟩ (fun i H' _ ⟨sm, _⟩ => same_sqt sm hs) ?_ ?_⟩
    · rintro i y H' hi ⟨sm, acc, hD, hal, hm⟩
      obtain ⟨e, h1, h2, h3⟩ := turn ha hp.2 hp.1 Dl i y H' hi sm acc hD hal hDl hm
      exact ⟨rfl, _, rfl, y, e, rfl, h1, h2, fun H2 v s2 f2 => ⟨acc, h3 H2 v s2 f2⟩⟩
    · rintro H' ⟨sm, acc, hD, hal, hm⟩
      rw [hl, List.take_length] at hm
      refine ⟨Dl, acc, rfl, .inl ⟨SqL.of hD, fun l hl2 => ?_⟩⟩
      have s1 : Same H' (upd H' l (.tup acc)) := same_new hl2
      exact q _ (.ref l) (sm.trans s1) fun H2 hk => .tup (SqT.of (hk l _ (sm.free hl2) upd_same)) (hm H2 fun b u h1 _ h3 => hk b u h1 (s1 _ _ h3))
  | non =>
    refine iteF ?_
    refine isi_read rfl kx.1 (kit_tup kx.2) ⟨_, rfl, ?_⟩
    refine iteF ?_
    exact ⟨_, rfl, q H _ sH fun _ _ => .non⟩
  | bl b =>
    refine iteF ?_
    refine isi_read rfl kx.1 (kit_tup kx.2) ⟨_, rfl, ?_⟩
    refine iteF ?_
    exact ⟨_, rfl, q H _ sH fun _ _ => .bl b⟩
  | int i =>
    refine iteF ?_
    refine isi_read rfl kx.1 (kit_tup kx.2) ⟨_, rfl, ?_⟩
    refine iteF ?_
    exact ⟨_, rfl, q H _ sH fun _ _ => .int i⟩
  | str z =>
    refine iteF ?_
    refine isi_read rfl kx.1 (kit_tup kx.2) ⟨_, rfl, ?_⟩
    refine iteF ?_
    exact ⟨_, rfl, q H _ sH fun _ _ => .str z⟩
theorem ok_copied (D : DefAt K mg "copied" s_copied ["thing"]) (T : Txt K mg) : ∀ n : Nat, CalX P w K mg base CX0 n "copied" ["thing"] (spCopied K n)
  | 0 => by
    obtain ⟨f, fd, F, m, b⟩ := D.ex
    have no : ∀ vs H Q E, ¬ spCopied K 0 vs H Q E := fun vs H Q E h => by
      obtain ⟨x, d, _, _, h, _⟩ := h
      exact h
    exact ⟨f, fd, ⟨fun vs H Q E h => absurd h (no vs H Q E), fun A outer s H args us vs Q E _ _ _ _ h => absurd h (no vs H Q E)⟩, m, F.kp, b, fun_lk F⟩
  | n + 1 => ok_copied_step D T (ok_copied D T n)
end
/-! ### put_place -/
def Out (U : Addr) (z : Str) (H : Hp) (E : XK) : Prop := ∀ d, H d = none → E (.ref U) (some d) (upd H d (xdO z (-1)))
def spPutPlace (K : PySem.W.Frag) (U : Addr) : Sp := fun vs H Q E => ∃ (x y : V) (d r : PyData), vs = [x, y] ∧ Dp K H x d ∧ Dp K H y r ∧ (∀ ds, d = .tuple ds → ds.length ≤ 1000000) ∧
  (lineOf d = false → ∀ H', Same H H' → Out U "line" H' E) ∧ (lineOf d = true → rankOf r = false → ∀ H', Same H H' → Out U "rank" H' E) ∧
  (∀ ds p H', d = .tuple ds → lineOf d = true → rankOf r = true → PlaceIs (rksOf ds) (rkInts r) p → Same H H' → Q (.int (p : Nat)) H')
section
variable {P : Program} {w : World} {K : PySem.W.Frag} {mg : Str → Option Value} {base : Heap} {U : Addr}
theorem ok_putPlace (D : DefAt K mg "put_place" s_put_place ["line", "rank"]) (GL : CalX P w K mg base CX0 3 "is_line" ["thing"] (spLine K)) (GR : CalX P w K mg base CX0 2 "is_rank" ["thing"] (spRank K)) (GB : CalX P w K mg base CX0 1 "place_behind" ["line", "rank"] (spBehind K))
    (GN : CalX P w K mg base (L2.CX P w) 3 "need" ["fits", "word"] (spNeed U)) : CalX P w K mg base (L2.CX P w) 4 "put_place" ["line", "rank"] (spPutPlace K U) := by
  refine D.okX sc_put_place (fun vs H Q E h => ?_) (fun f cdv A outer s H vs Q E hr h => ?_)
  · obtain ⟨x, y, d, r, rfl, _⟩ := h
    rfl
  obtain ⟨x, y, d, r, rfl, hx, hy, hn, q1, q2, q3⟩ := h
  refine ⟨_, pss_cons (ps_expr (pe_cx GN hr (by decide) rfl (passes_call (takes_of rfl rfl rfl rfl) (fun _ _ _ _ h => h)) (pa_cons (pe_c0 GL hr (by decide) rfl (pa_cons (pv 0) pa_nil)) (pa_cons pe_str pa_nil))))
    (pss_cons (ps_expr (pe_cx GN hr (by decide) rfl (passes_call (takes_of rfl rfl rfl rfl) (fun _ _ _ _ h => h)) (pa_cons (pe_c0 GR hr (by decide) rfl (pa_cons (pv 1) pa_nil)) (pa_cons pe_str pa_nil))))
    (pss_one (ps_ret (pe_c0 GB hr (by decide) rfl (pa_cons (pv 0) (pa_cons (pv 1) pa_nil)))))), ?_⟩
  refine ⟨_, rfl, x, d, rfl, hx, fun H1 s1 => ⟨_, _, rfl, fun e1 => ?_, fun e1 => q1 e1 H1 s1⟩⟩
  refine ⟨_, rfl, y, r, rfl, dp_same s1 hy, ⟨_, _, rfl, fun e2 => ?_, fun e2 => q2 e1 e2 H1 s1⟩⟩
  obtain ⟨ds, rfl⟩ : ∃ ds, d = .tuple ds := by
    cases d with
    | tuple ds => exact ⟨ds, rfl⟩
    | _ => exact nomatch e1
  exact ⟨_, rfl, _, rfl, x, y, ds, r, rfl, dp_same s1 hx, dp_same s1 hy, e1, e2, hn ds rfl, fun p hp => q3 ds p H1 rfl e1 e2 hp s1⟩
end
end K23
set_option Elab.async false
set_option linter.all false
set_option maxRecDepth 100000
set_option maxHeartbeats 4000000
namespace K23
open PySem PySem.Spec PyProof.Rows L2 Dt
theorem cut_take (xs : List V) (k : Nat) : cutV xs none (some (k : Int)) = xs.take k := by
  unfold cutV
  rw [HT.sIx_none, HT.sIx_nat]
  show (xs.drop 0).take (min k xs.length - 0) = _
  rw [List.drop_zero, Nat.sub_zero]
  by_cases h : k ≤ xs.length
  · rw [Nat.min_eq_left h]
  · rw [Nat.min_eq_right (by omega), List.take_length, List.take_of_length_le (by omega)]
theorem cut_drop (xs : List V) (k : Nat) : cutV xs (some (k : Int)) none = xs.drop k := by
  unfold cutV
  rw [HT.sIx_none, HT.sIx_nat]
  by_cases h : k ≤ xs.length
  · rw [Nat.min_eq_left h]
    exact List.take_of_length_le (by rw [List.length_drop]; omega)
  · rw [Nat.min_eq_right (by omega), List.drop_of_length_le (Nat.le_refl _), List.drop_of_length_le (by omega)]
    simp
theorem rSlA_all {K : PySem.W.Frag} {H : Hp} {a : Addr} {xs : List V} {lo hi : Option Int} {Q : VK} (ha : SqT K H a xs) (h : ∀ tp H2, Same H H2 → SqT K H2 tp (cutV xs lo hi) → Q (.ref tp) H2) : rSlA K (.ref a) lo hi H Q := by
  refine ⟨a, xs, rfl, ha, fun e => ?_, fun e p hp => h p _ (same_new hp) (SqT.of upd_same)⟩
  refine h a H (fun _ _ z => z) ?_
  have : cutV xs lo hi = xs := by
    unfold cutV
    rw [e.1, e.2, List.drop_zero, Nat.sub_zero, List.take_length]
  rw [this]
  exact ha
theorem dps_take {K : PySem.W.Frag} {H : Hp} : ∀ {vs : List V} {ds : List PyData} (n : Nat), DpAll K H vs ds → DpAll K H (vs.take n) (ds.take n)
  | _, _, 0, _ => by rw [List.take_zero, List.take_zero]; exact .nil
  | _, _, n + 1, .nil => .nil
  | _, _, n + 1, .cons h q => .cons h (dps_take n q)
theorem dps_drop {K : PySem.W.Frag} {H : Hp} : ∀ {vs : List V} {ds : List PyData} (n : Nat), DpAll K H vs ds → DpAll K H (vs.drop n) (ds.drop n)
  | _, _, 0, h => h
  | _, _, n + 1, .nil => .nil
  | _, _, n + 1, .cons h q => dps_drop n q
theorem dps_app {K : PySem.W.Frag} {H : Hp} : ∀ {vs ws : List V} {ds es : List PyData}, DpAll K H vs ds → DpAll K H ws es → DpAll K H (vs ++ ws) (ds ++ es)
  | _, _, _, _, .nil, h => h
  | _, _, _, _, .cons r t, h => .cons r (dps_app t h)
/-- the line with one entry more -/
def putD (ds : List PyData) (p : Nat) (r it : PyData) : PyData := .tuple (ds.take p ++ [.tuple [r, it]] ++ ds.drop p)
def spPutEntry (K : PySem.W.Frag) (U : Addr) (n : Nat) : Sp := fun vs H Q E => ∃ (x y z : V) (d r it : PyData), vs = [x, y, z] ∧ Dp K H x d ∧ Dp K H y r ∧ Dp K H z it ∧ (∀ ds, d = .tuple ds → ds.length ≤ 1000000) ∧
  (lineOf d = false → ∀ H', Same H H' → Out U "line" H' E) ∧ (lineOf d = true → rankOf r = false → ∀ H', Same H H' → Out U "rank" H' E) ∧
  (∀ ds p, d = .tuple ds → lineOf d = true → rankOf r = true → PlaceIs (rksOf ds) (rkInts r) p → plainN n (putD ds p r it) ∧ ∀ v H', Same H H' → DpF K H H' v (putD ds p r it) → Q v H')
section
variable {P : Program} {w : World} {K : PySem.W.Frag} {mg : Str → Option Value} {base : Heap} {U : Addr}
theorem ok_putEntry {n : Nat} (hn3 : 3 ≤ n) (D : DefAt K mg "put_entry" s_put_entry ["line", "rank", "item"]) (GL : CalX P w K mg base CX0 3 "is_line" ["thing"] (spLine K)) (GR : CalX P w K mg base CX0 2 "is_rank" ["thing"] (spRank K)) (GB : CalX P w K mg base CX0 1 "place_behind" ["line", "rank"] (spBehind K))
    (GC : CalX P w K mg base CX0 n "copied" ["thing"] (spCopied K n)) (GN : CalX P w K mg base (L2.CX P w) 3 "need" ["fits", "word"] (spNeed U)) : CalX P w K mg base (L2.CX P w) (n + 1) "put_entry" ["line", "rank", "item"] (spPutEntry K U n) := by
  refine D.okX sc_put_entry (fun vs H Q E h => ?_) (fun f cdv A outer s H vs Q E hr h => ?_)
  · obtain ⟨x, y, z, d, r, it, rfl, _⟩ := h
    rfl
  obtain ⟨x, y, z, d, r, it, rfl, hx, hy, hz, hn, q1, q2, q3⟩ := h
  refine ⟨_, pss_cons (ps_expr (pe_cx GN hr hn3 rfl (passes_call (takes_of rfl rfl rfl rfl) (fun _ _ _ _ h => h)) (pa_cons (pe_c0 GL hr hn3 rfl (pa_cons (pv 0) pa_nil)) (pa_cons pe_str pa_nil))))
    (pss_cons (ps_expr (pe_cx GN hr hn3 rfl (passes_call (takes_of rfl rfl rfl rfl) (fun _ _ _ _ h => h)) (pa_cons (pe_c0 GR hr (by omega) rfl (pa_cons (pv 1) pa_nil)) (pa_cons pe_str pa_nil))))
    (pss_cons (ps_set (i := 3) sc_put_entry.nd rfl (.inl rfl) (pe_c0 GB hr (by omega) rfl (pa_cons (pv 0) (pa_cons (pv 1) pa_nil))))
    (pss_one (ps_ret (pe_c0 GC hr (Nat.le_refl _) rfl (pa_cons (pe_op op_catA (pe_op op_catA (pe_slice sl_tupA (pv 0) po_none (po_some (pv 3))) (pe_tup (pa_cons (pe_tup (pa_cons (pv 1) (pa_cons (pv 2) pa_nil))) pa_nil))) (pe_slice sl_tupA (pv 0) (po_some (pv 3)) po_none)) pa_nil)))))), ?_⟩
  refine ⟨_, rfl, x, d, rfl, hx, fun H1 s1 => ⟨_, _, rfl, fun e1 => ?_, fun e1 => q1 e1 H1 s1⟩⟩
  refine ⟨_, rfl, y, r, rfl, dp_same s1 hy, ⟨_, _, rfl, fun e2 => ?_, fun e2 => q2 e1 e2 H1 s1⟩⟩
  obtain ⟨ds, rfl⟩ : ∃ ds, d = .tuple ds := by
    cases d with
    | tuple ds => exact ⟨ds, rfl⟩
    | _ => exact nomatch e1
  refine ⟨_, rfl, _, rfl, x, y, ds, r, rfl, dp_same s1 hx, dp_same s1 hy, e1, e2, hn ds rfl, fun p hp => ?_⟩
  obtain ⟨hpl, qq⟩ := q3 ds p rfl e1 e2 hp
  cases hx with
  | @tup a xs _ hs ha =>
  have hl := dps_len ha
  have hsl := sizeLine_eq
  have hds := hn ds rfl
  refine ⟨_, rfl, _, rfl, _, rfl, rSlA_all (same_sqt s1 hs) fun t1 H2 s2 ht1 => ?_⟩
  rw [cut_take] at ht1
  refine ⟨_, rfl, _, rfl, (by show 2 ≤ sizeLine; decide), fun t2 ht2 => ?_⟩
  have s3 : Same H2 (upd H2 t2 (.tup [y, z])) := same_new ht2
  have h2 : (upd H2 t2 (.tup [y, z])) t2 = some (.tup [y, z]) := upd_same
  revert s3 h2
  generalize upd H2 t2 (.tup [y, z]) = H3
  intro s3 h2
  refine ⟨(by show 1 ≤ sizeLine; decide), fun t3 ht3 => ?_⟩
  have s4 : Same H3 (upd H3 t3 (.tup [.ref t2])) := same_new ht3
  have h3 : (upd H3 t3 (.tup [.ref t2])) t3 = some (.tup [.ref t2]) := upd_same
  revert s4 h3
  generalize upd H3 t3 (.tup [.ref t2]) = H4
  intro s4 h3
  refine rCatA_all (same_sqt (s3.trans s4) ht1) (SqT.of h3) (by rw [List.length_take, List.length_singleton]; omega) fun t5 H5 s5 ht5 => ?_
  have sA := s1.trans (s2.trans (s3.trans (s4.trans s5)))
  refine ⟨_, rfl, _, rfl, _, rfl, ?_⟩
  dsimp only [L2.tNoPart]
  refine rSlA_all (same_sqt sA hs) fun t6 H6 s6 ht6 => ?_
  rw [cut_drop] at ht6
  refine rCatA_all (same_sqt s6 ht5) ht6 (by rw [List.length_append, List.length_take, List.length_drop, List.length_singleton]; omega) fun t7 H7 s7 ht7 => ?_
  have sB := sA.trans (s6.trans s7)
  have h27 := s7 _ _ (s6 _ _ (s5 _ _ (s4 _ _ h2)))
  have hdp : Dp K H7 (.ref t7) (putD ds p r it) := by
    refine .tup ht7 ?_
    have ha7 := dps_same sB ha
    exact dps_app (dps_app (dps_take p ha7) (.cons (.tup (SqT.of h27) (.cons (dp_same sB hy) (.cons (dp_same sB hz) .nil))) .nil)) (dps_drop p ha7)
  dsimp only [L2.tNil]
  exact ⟨.ref t7, _, rfl, hdp, hpl, fun H8 v s8 f8 => qq v H8 (sB.trans s8) fun H9 hk => f8 H9 fun b u h1 h2 => hk b u (sB.free h1) h2⟩
end
end K23
set_option Elab.async false
set_option linter.all false
set_option maxRecDepth 100000
set_option maxHeartbeats 4000000
namespace K23
open PySem PySem.Spec PyProof.Rows L2 Dt
/-! ### a made tree -/
def Tree (K : PySem.W.Frag) (H : Hp) (C a : Addr) (T : Dt) : Prop := ∃ dx fv L S, TreeAt C H a dx fv L S ∧ Full K H T S ∧ ShV K H fv T ∧ T.nodes ≤ 1000
theorem Tree.same {K : PySem.W.Frag} {H H' : Hp} {C a : Addr} {T : Dt} (t : Tree K H C a T) (e : Same H H') : Tree K H' C a T := by
  obtain ⟨dx, fv, L, S, h1, h2, h3, h4⟩ := t
  exact ⟨dx, fv, L, S, h1.same e, fun i hi => Paired.mono (fun v q c => Cell.keep (KeepT.of_same e) i v q c) (h2 i hi), h3.keep (KeepT.of_same e), h4⟩
theorem Paired.at {α β : Type} {F : α → β → Prop} : ∀ {l : List α} {m : List β}, Paired F l m → ∀ {i : Nat} {b : β}, m[i]? = some b → ∃ a, l[i]? = some a ∧ F a b
  | _, _, .nil, i, b, h => by simp at h
  | _, _, .cons r t, 0, b, h => by
    obtain rfl := Option.some.inj h
    exact ⟨_, rfl, r⟩
  | _, _, .cons r t, i + 1, b, h => Paired.at t (i := i) (b := b) (by simpa using h)
theorem idx_at {T : Dt} {p : Ad} (h : p ∈ ad T) : (ad T)[T.idx p]? = some p := by
  obtain ⟨u, hu⟩ := ad_sub h
  exact ad_at hu
theorem Full.node {K : PySem.W.Frag} {H : Hp} {T : Dt} {S : Nat → List V} (f : Full K H T S) {k : Nat} (hk : k < 8) {p : Ad} (hp : p ∈ ad T) : ∃ v, atI (S k) (T.idx p : Nat) = some v ∧ Cell K H T k v p := by
  have h := f k (by omega)
  unfold aof at h
  rw [if_pos hk] at h
  obtain ⟨v, h1, h2⟩ := Paired.at h (idx_at hp)
  exact ⟨v, atI_nat h1, h2⟩
theorem Full.len {K : PySem.W.Frag} {H : Hp} {T : Dt} {S : Nat → List V} (f : Full K H T S) {k : Nat} (hk : k < 8) : (S k).length = T.nodes := by
  have h := f k (by omega)
  unfold aof at h
  rw [if_pos hk] at h
  rw [Paired.len h, ad_len]
theorem Full.lenL {K : PySem.W.Frag} {H : Hp} {T : Dt} {S : Nat → List V} (f : Full K H T S) : (S 8).length = T.lf := by
  have h := f 8 (by omega)
  have : aof 8 = lv := rfl
  rw [this] at h
  exact Paired.len h
/-- a number that is below: an address -/
theorem below_ad {T : Dt} {o : Option Int} (h : belowB (T.nodes : Nat) o = true) : ∃ p, p ∈ ad T ∧ o = some (T.idx p : Nat) := by
  cases o with
  | none => exact nomatch h
  | some i =>
    have h' : (decide (0 ≤ i) && decide (i < (T.nodes : Nat))) = true := h
    rw [Bool.and_eq_true] at h'
    have h1 := of_decide_eq_true h'.1
    have h2 := of_decide_eq_true h'.2
    have h3 : i.toNat < (ad T).length := by rw [ad_len]; omega
    refine ⟨(ad T)[i.toNat], List.getElem_mem h3, ?_⟩
    rw [idx_of (List.getElem?_eq_getElem h3)]
    congr 1
    omega
theorem below_lv {T : Dt} {o : Option Int} (h : belowB (T.lf : Nat) o = true) : ∃ (i : Nat) (p : Ad), (lv T)[i]? = some p ∧ o = some (i : Nat) := by
  cases o with
  | none => exact nomatch h
  | some i =>
    have h' : (decide (0 ≤ i) && decide (i < (T.lf : Nat))) = true := h
    rw [Bool.and_eq_true] at h'
    have h1 := of_decide_eq_true h'.1
    have h2 := of_decide_eq_true h'.2
    have h3 : i.toNat < (lv T).length := by
      show i.toNat < T.lf
      omega
    refine ⟨i.toNat, (lv T)[i.toNat], List.getElem?_eq_getElem h3, ?_⟩
    congr 1
    omega
theorem ad_below {T : Dt} {p : Ad} (h : p ∈ ad T) : belowB (T.nodes : Nat) (some (T.idx p : Nat)) = true := by
  obtain ⟨u, hu⟩ := ad_sub h
  have h1 := idx_lt hu
  have h2 := u.nodes_pos
  show (decide ((0 : Int) ≤ (T.idx p : Nat)) && decide (((T.idx p : Nat) : Int) < (T.nodes : Nat))) = true
  rw [Bool.and_eq_true]
  exact ⟨decide_eq_true (by omega), decide_eq_true (by omega)⟩
section
variable {P : Program} {w : World} {K : PySem.W.Frag} {mg : Str → Option Value} {base : Heap} {C U fG : Addr}
def spNeedNode (K : PySem.W.Frag) (C U : Addr) : Sp := fun vs H Q E => ∃ a x o T z, vs = [.ref a, x, .str z] ∧ Tree K H C a T ∧ NumV K H x o ∧ (belowB (T.nodes : Nat) o = true → Q .non H) ∧ (belowB (T.nodes : Nat) o = false → Out U z H E)
def spNeedQueue (K : PySem.W.Frag) (C U : Addr) : Sp := fun vs H Q E => ∃ a x o T z, vs = [.ref a, x, .str z] ∧ Tree K H C a T ∧ NumV K H x o ∧ (belowB (T.lf : Nat) o = true → Q .non H) ∧ (belowB (T.lf : Nat) o = false → Out U z H E)
theorem ok_need_queue (D : DefAt K mg "need_queue" s_need_queue ["tree", "queue", "word"]) (T : Txt K mg) (TC : TCl K mg C fG) (GB : CalX P w K mg base CX0 3 "is_below" ["thing", "bound"] (spBelow K)) (GN : CalX P w K mg base (L2.CX P w) 3 "need" ["fits", "word"] (spNeed U)) :
    CalX P w K mg base (L2.CX P w) 4 "need_queue" ["tree", "queue", "word"] (spNeedQueue K C U) := by
  refine D.okX sc_need_queue (fun vs H Q E h => ?_) (fun f cdv A outer s H vs Q E hr h => ?_)
  · obtain ⟨a, x, o, t, z, rfl, _⟩ := h
    rfl
  obtain ⟨a, x, o, t, z, rfl, ⟨dx, fv, L, S, hT, hF, hV, h1⟩, hx, q1, q2⟩ := h
  refine ⟨_, pss_one (ps_expr (pe_cx GN hr (by decide) rfl (passes_call (takes_of rfl rfl rfl rfl) (fun _ _ _ _ h => h)) (pa_cons (pe_c0 GB hr (by decide) rfl (pa_cons (pv 1) (pa_cons (pe_callB call_len_seq (by rfl) T.len PySem.boot_len (pa_cons (pe_fld (pv 0) rfl) pa_nil)) pa_nil))) (pa_cons (pv 2) pa_nil)))), ?_⟩
  refine ⟨_, rfl, _, rfl, a, C, dx, _, _, rfl, hT.ob, TC.cl, TC.n8, stF_8 _ _, L 8, _, rfl, .inl (SqL.of (hT.ls 8 (by decide))), ?_⟩
  rw [hF.lenL]
  exact ⟨x, o, _, rfl, hx, _, rfl, _, z, rfl, q1, q2⟩
/-! ### shape_tree -/
def spShapeTree (K : PySem.W.Frag) (C U : Addr) : Sp := fun vs H Q E => ∃ (v : V) (t : Dt) (z : Str), vs = [v, .str z] ∧ DtV K H v t ∧ t.size ≤ 100000 ∧ (t.good 1 = true → t.ht < 20 ∧ t.nodes ≤ 1000 ∧ ∀ a H' fr, Same H H' → fr = a → H a = none → Tree K H' C a t → Q (.ref a) H') ∧
  (t.good 1 = false → ∀ H', Same H H' → Out U z H' E)
theorem ok_shapeTree {fC : Addr} {fdC : FuncData} (D : DefAt K mg "shape_tree" s_shape_tree ["form", "word"]) (M : Mk K C fC) (gC : mg "ShapeTree" = some (.ref C)) (bC : Binds K fdC ["self", "form"] []) (FC : FnOk P w K mg base (L2.CX P w) 21 fC fdC ["self", "form"] (spInit K C U 20))
    (GNS : CalX P w K mg base (L2.CX P w) 4 "need_shape" ["form", "word"] (spNeedShape K U)) : CalX P w K mg base (L2.CX P w) 23 "shape_tree" ["form", "word"] (spShapeTree K C U) := by
  refine D.okX sc_shape_tree (fun vs H Q E h => ?_) (fun f cdv A outer s H vs Q E hr h => ?_)
  · obtain ⟨v, t, z, rfl, _⟩ := h
    rfl
  obtain ⟨v, t, z, rfl, hv, hz, q1, q2⟩ := h
  refine ⟨_, pss_cons (ps_expr (pe_cx GNS hr (by decide) rfl (passes_call (takes_of rfl rfl rfl rfl) (fun _ _ _ _ h => h)) (pa_cons (pv 0) (pa_cons (pv 1) pa_nil))))
    (pss_one (ps_ret (pe_make M FC (hr.mono (by decide)) rfl gC bC .nil (passes_call (takes_of rfl rfl rfl rfl) (fun _ _ _ _ h => h)) (pa_cons (pv 0) pa_nil)))), ?_⟩
  refine ⟨_, rfl, _, rfl, v, t, z, rfl, hv, hz, fun g H1 s1 => ?_, fun g H1 d s1 hd => q2 g H1 s1 d hd⟩
  obtain ⟨p1, p2, p3⟩ := q1 g
  refine ⟨_, rfl, fun x dx hx hdx hne => ?_⟩
  have sx : Same H1 (upd (upd H1 dx (.own x)) x (.ins C dx [])) := fun y o h => by rw [upd_ne (ne_of_none h hx), upd_ne (ne_of_none h hdx)]; exact h
  refine ⟨x, dx, v, t, rfl, upd_same, same_dtv (s1.trans sx) hv, hz, fun _ => ⟨p1, p2, fun H2 L S TA kp F fr => ⟨rfl, ?_⟩⟩, fun bad => absurd (g.symm.trans bad) (by decide)⟩
  have sm : Same H1 H2 := fun y o h => kp y o (sx y o h) (ne_of_none h hx)
  have hsv : ShV K H2 v t := (same_dtv (s1.trans sm) hv).good g
  exact p3 x H2 x (s1.trans sm) rfl (s1.free hx) ⟨dx, v, L, S, TA, F, hsv, p2⟩
end
end K23
set_option Elab.async false
set_option linter.all false
set_option maxRecDepth 100000
set_option maxHeartbeats 4000000
namespace K23
open PySem PySem.Spec PyProof.Rows L2 Dt
/-! ### fit_path, are_ranks -/
def fitOf (n : Nat) (d : PyData) : Bool := match d with | .tuple ds => decide (ds.length = n) && ds.all rankOf | _ => false
def spFit (K : PySem.W.Frag) (C : Addr) : Sp := fun vs H Q _ => ∃ (a : Addr) (i : Nat) (x : V) (T : Dt) (p : Ad) (d : PyData), vs = [.ref a, .int (i : Nat), x] ∧ Tree K H C a T ∧ (lv T)[i]? = some p ∧ Dp K H x d ∧ (∀ ds, d = .tuple ds → ds.length ≤ 1000000) ∧ ∀ H', Same H H' → Q (.bl (fitOf (p.length + 1) d)) H'
def spAreRanks (K : PySem.W.Frag) (C U : Addr) : Sp := fun vs H Q E => ∃ (v x y : V) (t : Dt) (o : Option Int) (d : PyData), vs = [v, x, y] ∧ DtV K H v t ∧ t.size ≤ 100000 ∧ (t.good 1 = true → t.ht < 20 ∧ t.nodes ≤ 1000) ∧ NumV K H x o ∧ Dp K H y d ∧ (∀ ds, d = .tuple ds → ds.length ≤ 1000000) ∧
  (t.good 1 = false → ∀ H', Same H H' → Out U "form" H' E) ∧ (t.good 1 = true → belowB (t.lf : Nat) o = false → ∀ H', Same H H' → Out U "queue" H' E) ∧
  (t.good 1 = true → ∀ (i : Nat) p H', o = some (i : Nat) → (lv t)[i]? = some p → Same H H' → Q (.bl (fitOf (p.length + 1) d)) H')
theorem numV_same {K : PySem.W.Frag} {H H' : Hp} (e : Same H H') {x : V} {o : Option Int} (h : NumV K H x o) : NumV K H' x o := by
  cases o with
  | some i => exact h
  | none =>
    obtain ⟨t, h1, h2⟩ := h
    exact ⟨t, same_kind e h1, h2⟩
section
variable {P : Program} {w : World} {K : PySem.W.Frag} {mg : Str → Option Value} {base : Heap} {C U fG : Addr}
theorem ok_fit (D : DefAt K mg "fit_path" s_fit_path ["tree", "queue", "thing"]) (T : Txt K mg) (TC : TCl K mg C fG) (GR : CalX P w K mg base CX0 2 "is_rank" ["thing"] (spRank K)) : CalX P w K mg base CX0 3 "fit_path" ["tree", "queue", "thing"] (spFit K C) := by
  refine D.ok sc_fit_path (fun vs H Q E h => ?_) (fun f cdv A outer s H vs Q E hr h => ?_)
  · obtain ⟨a, i, x, t, p, d, rfl, _⟩ := h
    rfl
  obtain ⟨a, i, x, t, p, d, rfl, hTr, hp, hx, hn, q⟩ := h
  refine ⟨_, pss_cons (ps_if (PW.pt (pw_or (pt_not (pt_val (pe_callB call_isi (by rfl) T.isinstance boot_isinstance (pa_cons (pv 2) (pa_cons (pe_bltn (v := .ty "tuple") (by rfl) T.tuple PyProof.Rows.boot_tuple rfl) pa_nil)))))
        (pw_or1 (pt_cmpR op_ne (pe_callB call_len_seq (by rfl) T.len PySem.boot_len (pa_cons (pv 2) pa_nil)) (pe_callB call_len_seq (by rfl) T.len PySem.boot_len (pa_cons (pe_ix ix_list (pe_fld (pv 0) rfl) (pv 1) (fun _ _ => rfl)) pa_nil)) (nomark _))))) (pss_one (ps_ret pe_bl)) pss_nil)
    (pss_one (ps_ret (pe_callB (cr_all rfl) (by rfl) T.all (by decide +kernel) (pa_cons (pe_lc (own := [("rank", 3)]) (g := gName 3) (tt := tYes) (by rfl) sc_fit_path.nd (pi_tup (pv 2))
        (blkOk_by (own := [("rank", 3)]) (N := N_fit_path) (sc := defScope s_fit_path) (by decide +kernel)) (fun _ _ _ _ _ => pg_name (i := 3) sc_fit_path.nd rfl (Or.inl rfl)) (fun _ _ _ _ _ => pts_nil)
        (fun _ _ _ _ _ => by exact (pe_c0 GR hr (by decide) rfl (pa_cons (pv 3) pa_nil)))) pa_nil)))), ?_⟩
  have kx := kind_dp hx
  have sH : Same H H := fun _ _ z => z
  obtain ⟨dx, fv, L, S, hT, hF, hV, h1⟩ := id hTr
  have h9 := hF 9 (by decide)
  obtain ⟨v9, e9, b9, rfl, hb9⟩ := Paired.at h9 (show (aof 9 t)[i]? = some p from hp)
  refine isi_read rfl kx.1 (kit_tup kx.2) ⟨_, rfl, ?_⟩
  by_cases ht : ∃ ds, d = .tuple ds
  · obtain ⟨ds, rfl⟩ := ht
    cases hx with
    | @tup b xs _ hs ha =>
    have hl := dps_len ha
    have hsl := sizeLine_eq
    have hds := hn ds rfl
    refine iteF ?_
    refine ⟨_, rfl, b, xs, rfl, .inr hs, _, rfl, a, C, dx, _, _, rfl, hT.ob, TC.cl, TC.n9, stF_9 _ _, _, rfl, L 9, _, _, _, rfl, rfl, SqL.of (hT.ls 9 (by decide)), atI_nat e9, b9, _, rfl, .inr hb9, rfl, _, rfl, ?_⟩
    have el : (pth t p (p.length + 1)).length = p.length + 1 := by unfold pth; rw [List.length_map, List.length_range]
    rw [el, hl]
    by_cases c : ds.length = p.length + 1
    · rw [c]
      have e0 : (decide (V.int ((p.length + 1 : Nat) : Int) = V.int ((p.length + 1 : Nat) : Int))) = true := decide_eq_true rfl
      rw [e0]
      refine iteF ?_
      refine ⟨_, rfl, b, rfl, ⟨_, hs⟩, fun Dl hDl => lc_tup (K := K) (a := b) (xs := xs) (fun k H' => Same H H' ∧ H' Dl = some (.lst (((ds.take k).map rankOf).map V.bl))) ⟨same_new hDl, upd_same⟩ (fun k H' _ ⟨sm, _⟩ => same_sqt sm hs) ?_ ?_⟩
      · rintro k y H' hk ⟨sm, hD⟩
        obtain ⟨e, he, hy⟩ := dps_at ha hk
        have hkl := (List.getElem?_eq_some_iff.mp he).1
        refine ⟨rfl, _, rfl, y, e, rfl, dp_same sm hy, ?_⟩
        refine ⟨_, hD, ?_, same_mut sm hDl, ?_⟩
        · rw [List.length_map, List.length_map, List.length_take]
          omega
        · rw [upd_same, List.take_add_one, he, List.map_append, List.map_append]
          rfl
      · rintro H' ⟨sm, hD⟩
        rw [hl, List.take_length] at hD
        refine ⟨Dl, _, rfl, SqL.of hD, ?_⟩
        have e1 : fitOf (p.length + 1) (.tuple ds) = (ds.map rankOf).all id := by
          show (decide (ds.length = p.length + 1) && ds.all rankOf) = _
          rw [decide_eq_true c, Bool.true_and, List.all_map]
          rfl
        have := q H' sm
        rw [e1] at this
        exact this
    · have e0 : (decide (V.int (ds.length : Nat) = V.int ((p.length + 1 : Nat) : Int))) = false := decide_eq_false fun z => c (by injection z with z; omega)
      rw [e0]
      refine iteT ?_
      have := q H sH
      rw [show fitOf (p.length + 1) (.tuple ds) = false by show (decide (ds.length = p.length + 1) && ds.all rankOf) = false; rw [decide_eq_false c]; rfl] at this
      exact this
  · have e : (kindOf d == "tuple") = false := kind_tup_not fun ds z => ht ⟨ds, z⟩
    rw [e]
    refine iteT (iteT ?_)
    have e2 : fitOf (p.length + 1) d = false := by
      cases d with
      | tuple ds => exact absurd ⟨ds, rfl⟩ ht
      | _ => rfl
    have := q H sH
    rw [e2] at this
    exact this
theorem ok_areRanks (D : DefAt K mg "are_ranks" s_are_ranks ["form", "queue", "thing"]) (GT : CalX P w K mg base (L2.CX P w) 23 "shape_tree" ["form", "word"] (spShapeTree K C U)) (GQ : CalX P w K mg base (L2.CX P w) 4 "need_queue" ["tree", "queue", "word"] (spNeedQueue K C U))
    (GF : CalX P w K mg base CX0 3 "fit_path" ["tree", "queue", "thing"] (spFit K C)) : CalX P w K mg base (L2.CX P w) 24 "are_ranks" ["form", "queue", "thing"] (spAreRanks K C U) := by
  refine D.okX sc_are_ranks (fun vs H Q E h => ?_) (fun f cdv A outer s H vs Q E hr h => ?_)
  · obtain ⟨v, x, y, t, o, d, rfl, _⟩ := h
    rfl
  obtain ⟨v, x, y, t, o, d, rfl, hv, hz, hg, hx, hy, hn, q1, q2, q3⟩ := h
  refine ⟨_, pss_cons (ps_set (i := 3) sc_are_ranks.nd rfl (.inl rfl) (pe_cx GT hr (by decide) rfl (passes_call (takes_of rfl rfl rfl rfl) (fun _ _ _ _ h => h)) (pa_cons (pv 0) (pa_cons pe_str pa_nil))))
    (pss_cons (ps_expr (pe_cx GQ hr (by decide) rfl (passes_call (takes_of rfl rfl rfl rfl) (fun _ _ _ _ h => h)) (pa_cons (pv 3) (pa_cons (pv 1) (pa_cons pe_str pa_nil)))))
    (pss_one (ps_ret (pe_c0 GF hr (by decide) rfl (pa_cons (pv 3) (pa_cons (pv 1) (pa_cons (pv 2) pa_nil))))))), ?_⟩
  refine ⟨_, rfl, v, t, "form", rfl, hv, hz, fun g => ⟨(hg g).1, (hg g).2, fun a H1 _ s1 _ ha hTr => ?_⟩, fun g H1 s1 => q1 g H1 s1⟩
  refine ⟨_, rfl, _, rfl, a, x, o, t, "queue", rfl, hTr, numV_same s1 hx, fun e => ?_, fun e => q2 g e H1 s1⟩
  obtain ⟨i, p, hp, rfl⟩ := below_lv e
  obtain rfl : x = .int (i : Nat) := hx
  exact ⟨_, rfl, _, rfl, _, rfl, a, i, y, t, p, d, rfl, hTr, hp, dp_same s1 hy, hn, fun H2 s2 => q3 g i p H2 rfl hp (s1.trans s2)⟩
end
end K23
set_option Elab.async false
set_option linter.all false
set_option maxRecDepth 100000
set_option maxHeartbeats 4000000
namespace K23
open PySem PySem.Spec PyProof.Rows L2 Dt
/-! ### is_way, is_event -/
def wayOf (T : Dt) (q r : PyData) : Bool := match numOf q with
  | some i => if 0 ≤ i then (match (lv T)[i.toNat]? with | some p => fitOf (p.length + 1) r | none => false) else false
  | none => false
theorem wayOf_no {T : Dt} {q r : PyData} (h : belowB (T.lf : Nat) (numOf q) = false) : wayOf T q r = false := by
  unfold wayOf
  cases e : numOf q with
  | none => rfl
  | some i =>
    rw [e] at h
    have h' : (decide (0 ≤ i) && decide (i < (T.lf : Nat))) = false := h
    by_cases c : 0 ≤ i
    · show (if 0 ≤ i then (match (lv T)[i.toNat]? with | some p => fitOf (p.length + 1) r | none => false) else false) = false
      rw [if_pos c]
      rw [decide_eq_true c, Bool.true_and] at h'
      have h2 := of_decide_eq_false h'
      have : (lv T)[i.toNat]? = none := List.getElem?_eq_none (by show T.lf ≤ i.toNat; omega)
      rw [this]
    · show (if 0 ≤ i then (match (lv T)[i.toNat]? with | some p => fitOf (p.length + 1) r | none => false) else false) = false
      rw [if_neg c]
theorem wayOf_yes {T : Dt} {q r : PyData} {i : Nat} {p : Ad} (h : numOf q = some (i : Nat)) (hp : (lv T)[i]? = some p) : wayOf T q r = fitOf (p.length + 1) r := by
  unfold wayOf
  rw [h]
  show (if (0 : Int) ≤ (i : Nat) then (match (lv T)[((i : Nat) : Int).toNat]? with | some p => fitOf (p.length + 1) r | none => false) else false) = _
  rw [if_pos (by omega), Int.toNat_natCast, hp]
def spWay (K : PySem.W.Frag) (C : Addr) : Sp := fun vs H Q _ => ∃ (a : Addr) (x y : V) (T : Dt) (q r : PyData), vs = [.ref a, x, y] ∧ Tree K H C a T ∧ Dp K H x q ∧ Dp K H y r ∧ (∀ ds, r = .tuple ds → ds.length ≤ 1000000) ∧ ∀ H', Same H H' → Q (.bl (wayOf T q r)) H'
/-- data that is compared: no dict, not deep -/
def packB : Int := 1152921504606846976
def eventOf (T : Dt) (d : PyData) : Bool := match d with
  | .tuple [w] => PyData.eqv w (.str "depart")
  | .tuple [w, n, q, r] => PyData.eqv w (.str "push") && (belowB packB (numOf n) && wayOf T q r)
  | _ => false
def spEvent (K : PySem.W.Frag) (C : Addr) : Sp := fun vs H Q _ => ∃ (a : Addr) (x : V) (T : Dt) (d : PyData), vs = [.ref a, x] ∧ Tree K H C a T ∧ Dp K H x d ∧ (∀ ds, d = .tuple ds → ∀ e ∈ ds, SeqAt.shaped e = true ∧ ∀ es, e = .tuple es → es.length ≤ 1000000) ∧ ∀ H', Same H H' → Q (.bl (eventOf T d)) H'
section
variable {P : Program} {w : World} {K : PySem.W.Frag} {mg : Str → Option Value} {base : Heap} {C U fG : Addr}
theorem ok_way (D : DefAt K mg "is_way" s_is_way ["tree", "queue", "ranks"]) (T : Txt K mg) (TC : TCl K mg C fG) (GB : CalX P w K mg base CX0 3 "is_below" ["thing", "bound"] (spBelow K)) (GF : CalX P w K mg base CX0 3 "fit_path" ["tree", "queue", "thing"] (spFit K C)) : CalX P w K mg base CX0 4 "is_way" ["tree", "queue", "ranks"] (spWay K C) := by
  refine D.ok sc_is_way (fun vs H Q E h => ?_) (fun f cdv A outer s H vs Q E hr h => ?_)
  · obtain ⟨a, x, y, t, q, r, rfl, _⟩ := h
    rfl
  obtain ⟨a, x, y, t, qd, r, rfl, hTr, hx, hy, hn, q⟩ := h
  obtain ⟨dx, fv, L, S, hT, hF, hV, h1⟩ := id hTr
  refine ⟨_, pss_one (ps_ret (pe_and (pe_c0 GB hr (by decide) rfl (pa_cons (pv 1) (pa_cons (pe_callB call_len_seq (by rfl) T.len PySem.boot_len (pa_cons (pe_fld (pv 0) rfl) pa_nil)) pa_nil))) (pe_one (pe_c0 GF hr (by decide) rfl (pa_cons (pv 0) (pa_cons (pv 1) (pa_cons (pv 2) pa_nil))))))), ?_⟩
  refine ⟨_, rfl, _, rfl, a, C, dx, _, _, rfl, hT.ob, TC.cl, TC.n8, stF_8 _ _, L 8, _, rfl, .inl (SqL.of (hT.ls 8 (by decide))), ?_⟩
  rw [hF.lenL]
  refine ⟨x, numOf qd, _, rfl, num_dp hx, _, rfl, ?_⟩
  cases hb : belowB (t.lf : Nat) (numOf qd) with
  | false =>
    refine iteF ?_
    have := q H (fun _ _ z => z)
    rw [wayOf_no hb] at this
    exact this
  | true =>
    refine iteT ?_
    obtain ⟨i, p, hp, ho⟩ := below_lv hb
    have hxi : x = .int (i : Nat) := by
      have := num_dp hx
      rw [ho] at this
      exact this
    subst hxi
    refine ⟨_, rfl, _, rfl, _, rfl, a, i, y, t, p, r, rfl, hTr, hp, hy, hn, fun H2 s2 => ?_⟩
    have := q H2 s2
    rw [wayOf_yes ho hp] at this
    exact this
end
end K23
set_option Elab.async false
set_option linter.all false
set_option maxRecDepth 100000
set_option maxHeartbeats 4000000
namespace K23
open PySem PySem.Spec PyProof.Rows L2 Dt
theorem shaped_str (z : Str) (h : PyData.strOk z = true) : SeqAt.shaped (.str z) = true := by
  unfold SeqAt.shaped PyData.canLay0 PyData.depth
  rw [h]
  rfl
theorem event_len {T : Dt} {ds : List PyData} (h1 : ds.length ≠ 1) (h4 : ds.length ≠ 4) : eventOf T (.tuple ds) = false := by
  match ds, h1, h4 with
  | [], _, _ => rfl
  | [d1], h1, _ => exact absurd rfl h1
  | [d1, d2], _, _ => rfl
  | [d1, d2, d3], _, _ => rfl
  | [d1, d2, d3, d4], _, h4 => exact absurd rfl h4
  | d1 :: d2 :: d3 :: d4 :: d5 :: l, _, _ => rfl
section
variable {P : Program} {w : World} {K : PySem.W.Frag} {mg : Str → Option Value} {base : Heap} {C U fG : Addr}
theorem ok_event (D : DefAt K mg "is_event" s_is_event ["tree", "thing"]) (T : Txt K mg) (mp : ∃ t, mg "PACKET_BOUND" = some (.int packB t)) (GB : CalX P w K mg base CX0 3 "is_below" ["thing", "bound"] (spBelow K)) (GW : CalX P w K mg base CX0 4 "is_way" ["tree", "queue", "ranks"] (spWay K C)) : CalX P w K mg base CX0 5 "is_event" ["tree", "thing"] (spEvent K C) := by
  obtain ⟨tk, mp⟩ := mp
  refine D.ok sc_is_event (fun vs H Q E h => ?_) (fun f cdv A outer s H vs Q E hr h => ?_)
  · obtain ⟨a, x, t, d, rfl, _⟩ := h
    rfl
  obtain ⟨a, x, t, d, rfl, hTr, hx, hsh, q⟩ := h
  have hu : A.units + 64 < cLine := by have := hr.un; have e : (A.deeper (envOfC "is_event" (defScope s_is_event) s.heap.objs.size f cdv)).units = A.units + 3 := rfl; omega
  refine ⟨_, pss_cons (ps_if (pt_not (pt_val (pe_callB call_isi (by rfl) T.isinstance boot_isinstance (pa_cons (pv 1) (pa_cons (pe_bltn (v := .ty "tuple") (by rfl) T.tuple PyProof.Rows.boot_tuple rfl) pa_nil))))) (pss_one (ps_ret pe_bl)) pss_nil)
    (pss_cons (ps_if (pt_cmpR op_eq (pe_callB call_len_seq (by rfl) T.len PySem.boot_len (pa_cons (pv 1) pa_nil)) pe_int (nomark _)) (pss_one (ps_ret (pe_cmpR (op_eqD hr.units) (pe_ix ix_tup (pv 1) pe_int (fun _ _ => rfl)) pe_str (nomark _)))) pss_nil)
    (pss_cons (ps_if (PW.pt (pw_or (pt_cmpR op_ne (pe_callB call_len_seq (by rfl) T.len PySem.boot_len (pa_cons (pv 1) pa_nil)) pe_int (nomark _)) (pw_or1 (pt_cmpR (op_neD hr.units) (pe_ix ix_tup (pv 1) pe_int (fun _ _ => rfl)) pe_str (nomark _))))) (pss_one (ps_ret pe_bl)) pss_nil)
    (pss_one (ps_ret (pe_and (pe_c0 GB hr (by decide) rfl (pa_cons (pe_ix ix_tup (pv 1) pe_int (fun _ _ => rfl)) (pa_cons (pe_glob (v := .int packB) (by rfl) mp ⟨_, rfl⟩) pa_nil)))
      (pe_one (pe_c0 GW hr (by decide) rfl (pa_cons (pv 0) (pa_cons (pe_ix ix_tup (pv 1) pe_int (fun _ _ => rfl)) (pa_cons (pe_ix ix_tup (pv 1) pe_int (fun _ _ => rfl)) pa_nil)))))))))), ?_⟩
  have kx := kind_dp hx
  have sH : Same H H := fun _ _ z => z
  have qH := q H sH
  refine isi_read rfl kx.1 (kit_tup kx.2) ⟨_, rfl, ?_⟩
  by_cases ht : ∃ ds, d = .tuple ds
  · obtain ⟨ds, rfl⟩ := ht
    have hsh' := hsh ds rfl
    cases hx with
    | @tup b xs _ hs ha =>
    have hl := dps_len ha
    refine iteF ?_
    refine ⟨_, rfl, b, xs, rfl, .inr hs, rfl, _, rfl, ?_⟩
    rw [hl]
    by_cases c1 : ds.length = 1
    · have e1 : (decide (V.int (ds.length : Nat) = V.int 1)) = true := decide_eq_true (by rw [c1]; rfl)
      rw [e1]
      refine iteT ?_
      match ds, c1, ha, hsh', qH with
      | [d1], _, ha, hsh', qH =>
        cases ha with
        | @cons v1 vr _ _ g1 gr =>
        refine ⟨_, rfl, b, (v1 :: vr), 0, v1, rfl, rfl, hs, (show atI (v1 :: vr) ((0 : Nat) : Int) = some v1 from atI_nat rfl), d1, .str "depart", g1, .str _, (hsh' d1 (by simp)).1, shaped_str _ (by decide +kernel), ?_⟩
        exact qH
    · have e1 : (decide (V.int (ds.length : Nat) = V.int 1)) = false := decide_eq_false fun z => c1 (by injection z with z; omega)
      rw [e1]
      refine iteF ?_
      refine ⟨_, rfl, b, xs, rfl, .inr hs, rfl, _, rfl, ?_⟩
      rw [hl]
      by_cases c4 : ds.length = 4
      · have e4 : (decide (V.int (ds.length : Nat) = V.int 4)) = true := decide_eq_true (by rw [c4]; rfl)
        rw [e4]
        refine iteF ?_
        match ds, c4, ha, hsh', q with
        | [d1, d2, d3, d4], _, ha, hsh', q =>
          cases ha with
          | @cons v1 vr1 _ _ g1 ha =>
          cases ha with
          | @cons v2 vr2 _ _ g2 ha =>
          cases ha with
          | @cons v3 vr3 _ _ g3 ha =>
          cases ha with
          | @cons v4 vr4 _ _ g4 ha =>
          refine ⟨_, rfl, b, (v1 :: v2 :: v3 :: v4 :: vr4), 0, v1, rfl, rfl, hs, (show atI (v1 :: v2 :: v3 :: v4 :: vr4) ((0 : Nat) : Int) = some v1 from atI_nat rfl), d1, .str "push", g1, .str _, (hsh' d1 (by simp)).1, shaped_str _ (by decide +kernel), _, rfl, ?_⟩
          have eo : eventOf t (.tuple [d1, d2, d3, d4]) = (PyData.eqv d1 (.str "push") && (belowB packB (numOf d2) && wayOf t d3 d4)) := rfl
          cases e5 : PyData.eqv d1 (.str "push") with
          | false =>
            refine iteT ?_
            have := q H sH
            rw [eo, e5] at this
            exact this
          | true =>
            refine iteF ?_
            refine ⟨_, rfl, b, (v1 :: v2 :: v3 :: v4 :: vr4), 1, v2, rfl, rfl, hs, (show atI (v1 :: v2 :: v3 :: v4 :: vr4) ((1 : Nat) : Int) = some v2 from atI_nat rfl), v2, numOf d2, packB, rfl, num_dp g2, _, rfl, ?_⟩
            cases e6 : belowB packB (numOf d2) with
            | false =>
              refine iteF ?_
              have := q H sH
              rw [eo, e5, e6] at this
              exact this
            | true =>
              refine iteT ?_
              refine ⟨_, rfl, _, rfl, b, (v1 :: v2 :: v3 :: v4 :: vr4), 2, v3, rfl, rfl, hs, (show atI (v1 :: v2 :: v3 :: v4 :: vr4) ((2 : Nat) : Int) = some v3 from atI_nat rfl), _, rfl, b, (v1 :: v2 :: v3 :: v4 :: vr4), 3, v4, rfl, rfl, hs, (show atI (v1 :: v2 :: v3 :: v4 :: vr4) ((3 : Nat) : Int) = some v4 from atI_nat rfl), a, v3, v4, t, d3, d4, rfl, hTr, g3, g4, (hsh' d4 (by simp)).2, fun H2 s2 => ?_⟩
              have := q H2 s2
              rw [eo, e5, e6] at this
              exact this
      · have e4 : (decide (V.int (ds.length : Nat) = V.int 4)) = false := decide_eq_false fun z => c4 (by injection z with z; omega)
        rw [e4]
        refine iteT (iteT ?_)
        rw [event_len c1 c4] at qH
        exact qH
  · have e : (kindOf d == "tuple") = false := kind_tup_not fun ds z => ht ⟨ds, z⟩
    rw [e]
    refine iteT ?_
    have e2 : eventOf t d = false := by
      cases d with
      | tuple ds => exact absurd ⟨ds, rfl⟩ ht
      | _ => rfl
    rw [e2] at qH
    exact qH
end
end K23
set_option Elab.async false
set_option linter.all false
set_option maxRecDepth 100000
set_option maxHeartbeats 4000000
namespace K23
open PySem PySem.Spec PyProof.Rows L2 Dt
/-! ### are_events, events_fit -/
/-- the number that an event pushes -/
def pushNo : PyData → Option Int
  | .tuple [w, n, _, _] => if PyData.eqv w (.str "push") = true then numOf n else none
  | _ => none
def evsGo (T : Dt) (seen : List Int) : List PyData → Bool
  | [] => true
  | e :: r => eventOf T e && (match pushNo e with | some n => !decide (n ∈ seen) && evsGo T (n :: seen) r | none => evsGo T seen r)
def evsOf (T : Dt) (d : PyData) : Bool := match d with | .tuple ds => evsGo T [] ds | _ => false
/-- the parts of an event can be compared -/
def EvOk (d : PyData) : Prop := ∀ ds, d = .tuple ds → ∀ e ∈ ds, SeqAt.shaped e = true ∧ ∀ es, e = .tuple es → es.length ≤ 1000000
def spEvents (K : PySem.W.Frag) (C : Addr) : Sp := fun vs H Q _ => ∃ (a : Addr) (x : V) (T : Dt) (d : PyData), vs = [.ref a, x] ∧ Tree K H C a T ∧ Dp K H x d ∧ (∀ ds, d = .tuple ds → ds.length ≤ 1000 ∧ ∀ e ∈ ds, EvOk e) ∧ ∀ H', Same H H' → Q (.bl (evsOf T d)) H'
theorem event_no {T : Dt} {e : PyData} (h : eventOf T e = true) : (∃ w, e = .tuple [w] ∧ PyData.eqv w (.str "depart") = true) ∨ ∃ w n q r i, e = .tuple [w, n, q, r] ∧ PyData.eqv w (.str "push") = true ∧ numOf n = some i := by
  cases e with
  | tuple ds =>
    match ds, h with
    | [], h => exact nomatch h
    | [w], h => exact .inl ⟨w, rfl, h⟩
    | [_, _], h => exact nomatch h
    | [_, _, _], h => exact nomatch h
    | [w, n, q, r], h =>
      have h' : (PyData.eqv w (.str "push") && (belowB packB (numOf n) && wayOf T q r)) = true := h
      simp only [Bool.and_eq_true] at h'
      cases e : numOf n with
      | none =>
        rw [e] at h'
        exact nomatch h'.2.1
      | some i => exact .inr ⟨w, n, q, r, i, rfl, h'.1, e⟩
    | _ :: _ :: _ :: _ :: _ :: _, h => exact nomatch h
  | _ => exact nomatch h
theorem eqv_depart {w : PyData} (h : PyData.eqv w (.str "depart") = true) : PyData.eqv w (.str "push") = false := by
  cases w with
  | str z =>
    unfold PyData.eqv at h ⊢
    have hz : z = "depart" := by simpa using h
    rw [hz]
    decide +kernel
  | none => simp [PyData.eqv] at h
  | bool _ => simp [PyData.eqv] at h
  | int _ => simp [PyData.eqv] at h
  | list _ => simp [PyData.eqv] at h
  | tuple _ => simp [PyData.eqv] at h
  | dict _ => simp [PyData.eqv] at h
section
variable {P : Program} {w : World} {K : PySem.W.Frag} {mg : Str → Option Value} {base : Heap} {C U fG : Addr}
theorem ok_events (D : DefAt K mg "are_events" s_are_events ["tree", "thing"]) (T : Txt K mg) (GE : CalX P w K mg base CX0 5 "is_event" ["tree", "thing"] (spEvent K C)) : CalX P w K mg base CX0 6 "are_events" ["tree", "thing"] (spEvents K C) := by
  refine D.ok sc_are_events (fun vs H Q E h => ?_) (fun f cdv A outer s H vs Q E hr h => ?_)
  · obtain ⟨a, x, t, d, rfl, _⟩ := h
    rfl
  obtain ⟨a, x, t, d, rfl, hTr, hx, hok, q⟩ := h
  have hu := hu_of hr
  refine ⟨_, pss_cons (ps_if (pt_not (pt_val (pe_callB call_isi (by rfl) T.isinstance boot_isinstance (pa_cons (pv 1) (pa_cons (pe_bltn (v := .ty "tuple") (by rfl) T.tuple PyProof.Rows.boot_tuple rfl) pa_nil))))) (pss_one (ps_ret pe_bl)) pss_nil)
    (pss_cons (ps_set (i := 2) sc_are_events.nd rfl (.inl rfl) pe_dnewK)
    (pss_cons (ps_for PassesOwn.never rfl (pi_tup (pv 1)) (pg_name (i := 3) sc_are_events.nd rfl (Or.inl rfl))
      (pss_cons (ps_if (pt_not (pt_val (pe_c0 GE hr (by decide) rfl (pa_cons (pv 0) (pa_cons (pv 3) pa_nil))))) (pss_one (ps_ret pe_bl)) pss_nil)
      (pss_one (ps_if (pt_cmpR (op_eqD hr.units) (pe_ix ix_tup (pv 3) pe_int (fun _ _ => rfl)) pe_str (nomark _))
        (pss_cons (ps_if (pt_cmp (pc_din hu (pe_ix ix_tup (pv 3) pe_int (fun _ _ => rfl)) (pv 2))) (pss_one (ps_ret pe_bl)) pss_nil)
        (pss_one (ps_dput hu (pv 2) (pe_ix ix_tup (pv 3) pe_int (fun _ _ => rfl)) pe_bl rfl))) pss_nil))))
    (pss_one (ps_ret pe_bl)))), ?_⟩
  have kx := kind_dp hx
  refine isi_read rfl kx.1 (kit_tup kx.2) ⟨_, rfl, ?_⟩
  by_cases ht : ∃ ds, d = .tuple ds
  · obtain ⟨ds, rfl⟩ := ht
    obtain ⟨hn, hev⟩ := hok ds rfl
    cases hx with
    | @tup b xs _ hs ha =>
    have hl := dps_len ha
    refine iteF ?_
    intro pd hpd
    refine ⟨_, rfl, b, rfl, ⟨_, same_sqt (same_new hpd) hs⟩, for_tup (K := K) (a := b) (xs := xs) (fun i σ H' => ∃ (kvs : List (Key × V)) (seen : List Int) (o3 : Option V), σ = [some (.ref a), some (.ref b), some (.ref pd), o3] ∧ Same H H' ∧ H' pd = some (.dK kvs) ∧ kvs.length ≤ i ∧
      (∀ n : Int, (valV kvs (Sum.inl n : Key)).isSome = decide (n ∈ seen)) ∧ evsGo t [] ds = evsGo t seen (ds.drop i)) ⟨[], [], none, rfl, same_new hpd, upd_same, Nat.le_refl _, (fun n => by simp [valV_nil]), by rw [List.drop_zero]⟩ (fun i σ H' _ ⟨_, _, _, _, sm, _⟩ => same_sqt sm hs) ?_ ?_⟩
    · rintro i y σ H' hi ⟨kvs, seen, o3, rfl, sm, hD, hkl, hseen, hgo⟩
      obtain ⟨e, he, hy⟩ := dps_at ha hi
      have hil := (List.getElem?_eq_some_iff.mp he).1
      have hem := List.mem_of_getElem? he
      have ed : ds.drop i = e :: ds.drop (i + 1) := by
        rw [List.drop_eq_getElem_cons hil]
        congr 1
        rw [List.getElem?_eq_getElem hil] at he
        exact Option.some.inj he
      have eg : evsGo t seen (e :: ds.drop (i + 1)) = (eventOf t e && (match pushNo e with | some n => !decide (n ∈ seen) && evsGo t (n :: seen) (ds.drop (i + 1)) | none => evsGo t seen (ds.drop (i + 1)))) := by rw [evsGo]
      rw [ed, eg] at hgo
      refine ⟨_, rfl, _, rfl, a, y, t, e, rfl, hTr.same sm, dp_same sm hy, hev e hem, fun H2 s2 => ⟨_, rfl, ?_⟩⟩
      have sm2 := sm.trans s2
      have hD2 := s2 _ _ hD
      cases hee : eventOf t e with
      | false =>
        refine iteT ?_
        have := q H2 sm2
        rw [show evsOf t (.tuple ds) = false from hgo.trans (by rw [hee]; rfl)] at this
        exact this
      | true =>
        refine iteF ?_
        rw [hee, Bool.true_and] at hgo
        have hy2 := dp_same sm2 hy
        rcases event_no hee with ⟨w1, rfl, hw⟩ | ⟨w1, n1, q1, r1, n, rfl, hw, hnn⟩
        · cases hy2 with
          | @tup c ys _ hsc hac =>
          cases hac with
          | @cons v1 vr _ _ g1 gr =>
          refine ⟨_, rfl, c, (v1 :: vr), 0, v1, rfl, rfl, hsc, (show atI (v1 :: vr) ((0 : Nat) : Int) = some v1 from atI_nat rfl), w1, .str "push", g1, .str _, (hev _ hem _ rfl w1 (by simp)).1, shaped_str _ (by decide +kernel), _, rfl, ?_⟩
          rw [eqv_depart hw]
          refine iteF ?_
          exact ⟨kvs, seen, _, rfl, sm2, hD2, by omega, hseen, hgo⟩
        · cases hy2 with
          | @tup c ys _ hsc hac =>
          cases hac with
          | @cons v1 vr _ _ g1 hac =>
          cases hac with
          | @cons v2 vr2 _ _ g2 gr =>
          have hv2 : v2 = .int n := by
            have := num_dp g2
            rw [hnn] at this
            exact this
          subst hv2
          have epn : pushNo (.tuple [w1, n1, q1, r1]) = some n := by
            show (if PyData.eqv w1 (.str "push") = true then numOf n1 else none) = some n
            rw [if_pos hw, hnn]
          rw [epn] at hgo
          have hgo' : evsGo t [] ds = (!decide (n ∈ seen) && evsGo t (n :: seen) (ds.drop (i + 1))) := hgo
          refine ⟨_, rfl, c, (v1 :: .int n :: vr2), 0, v1, rfl, rfl, hsc, (show atI (v1 :: V.int n :: vr2) ((0 : Nat) : Int) = some v1 from atI_nat rfl), w1, .str "push", g1, .str _, (hev _ hem _ rfl w1 (by simp)).1, shaped_str _ (by decide +kernel), _, rfl, ?_⟩
          rw [hw]
          refine iteT ?_
          refine ⟨_, rfl, c, (v1 :: .int n :: vr2), 1, .int n, rfl, rfl, hsc, (show atI (v1 :: V.int n :: vr2) ((1 : Nat) : Int) = some (.int n) from atI_nat rfl), _, rfl, pd, _, rfl, DGet.k (k := Sum.inl n) hD2, _, rfl, ?_⟩
          cases hval : valV kvs (Sum.inl n : Key) with
          | some u =>
            refine iteT ?_
            have h1 := hseen n
            rw [hval] at h1
            have h2 : decide (n ∈ seen) = true := h1.symm
            have := q H2 sm2
            rw [show evsOf t (.tuple ds) = false from hgo'.trans (by rw [h2]; rfl)] at this
            exact this
          | none =>
            refine iteF ?_
            have h1 := hseen n
            rw [hval] at h1
            have h2 : decide (n ∈ seen) = false := h1.symm
            refine ⟨_, rfl, _, rfl, c, (v1 :: .int n :: vr2), 1, .int n, rfl, rfl, hsc, (show atI (v1 :: V.int n :: vr2) ((1 : Nat) : Int) = some (.int n) from atI_nat rfl), pd, _, rfl, DPut.k (k := Sum.inl n) hD2 (small1000 (by omega)), ?_⟩
            refine ⟨putK kvs (Sum.inl n : Key) (.bl true), n :: seen, _, rfl, same_mut sm2 hpd, upd_same, ?_, fun m => ?_, ?_⟩
            · rw [putK_new _ hval, List.length_append]
              show kvs.length + 1 ≤ i + 1
              omega
            · rw [valV_put]
              by_cases z : m = n
              · subst z
                rw [if_pos rfl]
                simp
              · rw [if_neg (fun y => z (Sum.inl.inj y)), hseen m]
                exact decide_eq_decide.mpr (by simp [z])
            · rw [hgo', h2]
              rfl
    · rintro σ H' ⟨kvs, seen, o3, rfl, sm, hD, hkl, hseen, hgo⟩
      rw [hl, List.drop_length] at hgo
      have := q H' sm
      rw [show evsOf t (.tuple ds) = true from hgo] at this
      exact this
  · have e : (kindOf d == "tuple") = false := kind_tup_not fun ds z => ht ⟨ds, z⟩
    rw [e]
    refine iteT ?_
    have e2 : evsOf t d = false := by
      cases d with
      | tuple ds => exact absurd ⟨ds, rfl⟩ ht
      | _ => rfl
    have := q H (fun _ _ z => z)
    rw [e2] at this
    exact this
end
end K23
set_option Elab.async false
set_option linter.all false
set_option maxRecDepth 100000
set_option maxHeartbeats 4000000
namespace L2
open PySem PySem.Spec PyProof.Rows
section
variable {X : Cx}
/-- xs[i] op= e: the read -/
theorem pg_getL : PGet X (rIxL X.K) := by
  intro pins s σ H x y v u Q I rx ry h
  obtain ⟨p, xs, i, z, rfl, rfl, hq, he, q⟩ := h
  cases rx
  obtain ⟨t, rfl⟩ := ry
  obtain ⟨its, r, pl, hz⟩ := I.list hq
  obtain ⟨j, h1, h2, h3, h4, h5⟩ := atI_get he
  obtain ⟨w, ew, rw'⟩ := r.get h2
  have hl := r.length
  have hn := line63
  have fin : EP X pins σ Q w s := ⟨z, H, I, rw', q⟩
  by_cases h0 : 0 ≤ i
  · have hj : i.toNat = j := by
      rw [seqIndex_of h0 h5] at h1
      exact Option.some.inj h1
    exact wpAny_getItem_list pl.isList h0 (by omega) (by rw [hj]; simpa using ew) fin
  · have hj : (i + (its.toArray.size : Int)).toNat = j := by
      rw [seqIndex_neg (by omega) h4] at h1
      rw [List.size_toArray, ← hl]
      exact Option.some.inj h1
    exact wpAny_getItem_list_neg pl.isList (by omega) (by rw [List.size_toArray] <;> omega) (by omega) (by rw [hj]; simpa using ew) fin
end
end L2
namespace K23
open PySem PySem.Spec PyProof.Rows L2 Dt
/-! ### events_fit -/
def spFits (K : PySem.W.Frag) (U : Addr) : Sp := fun vs H Q E => ∃ (v x : V) (t : Dt) (d : PyData), vs = [v, x] ∧ DtV K H v t ∧ t.size ≤ 100000 ∧ (t.good 1 = true → t.ht < 20 ∧ t.nodes ≤ 1000) ∧ Dp K H x d ∧ (∀ ds, d = .tuple ds → ds.length ≤ 1000 ∧ ∀ e ∈ ds, EvOk e) ∧
  (t.good 1 = false → ∀ H', Same H H' → Out U "form" H' E) ∧ (t.good 1 = true → ∀ H', Same H H' → Q (.bl (evsOf t d)) H')
section
variable {P : Program} {w : World} {K : PySem.W.Frag} {mg : Str → Option Value} {base : Heap} {C U fG : Addr}
theorem ok_fits (D : DefAt K mg "events_fit" s_events_fit ["form", "thing"]) (GT : CalX P w K mg base (L2.CX P w) 23 "shape_tree" ["form", "word"] (spShapeTree K C U)) (GE : CalX P w K mg base CX0 6 "are_events" ["tree", "thing"] (spEvents K C)) :
    CalX P w K mg base (L2.CX P w) 24 "events_fit" ["form", "thing"] (spFits K U) := by
  refine D.okX sc_events_fit (fun vs H Q E h => ?_) (fun f cdv A outer s H vs Q E hr h => ?_)
  · obtain ⟨v, x, t, d, rfl, _⟩ := h
    rfl
  obtain ⟨v, x, t, d, rfl, hv, hz, hg, hx, hn, q1, q2⟩ := h
  refine ⟨_, pss_one (ps_ret (pe_c0 GE hr (by decide) rfl (pa_cons (pe_cx GT hr (by decide) rfl (passes_call (takes_of rfl rfl rfl rfl) (fun _ _ _ _ h => h)) (pa_cons (pv 0) (pa_cons pe_str pa_nil))) (pa_cons (pv 1) pa_nil)))), ?_⟩
  refine ⟨_, rfl, v, t, "form", rfl, hv, hz, fun g => ⟨(hg g).1, (hg g).2, fun a H1 _ s1 _ ha hTr => ?_⟩, fun g H1 s1 => q1 g H1 s1⟩
  exact ⟨_, rfl, a, x, t, d, rfl, hTr, dp_same s1 hx, hn, fun H2 s2 => q2 g H2 (s1.trans s2)⟩
end
/-! ### the tape -/
def tapeL (ca : Addr) (i b s : Int) : List V := [.ref ca, .int i, .int b, .int s]
def Tape (K : PySem.W.Frag) (H : Hp) (tp ca : Addr) : Prop := ∃ (cs : List Int) (i b s : Int), ca ≠ tp ∧ H tp = some (.lst (tapeL ca i b s)) ∧ H ca = some (.lst (cs.map V.int)) ∧ 0 ≤ i ∧ cs.length ≤ 1000
/-- all but the tape's list stays -/
def Go (tp : Addr) (H H' : Hp) : Prop := Same (del H tp) (del H' tp)
theorem Go.refl {tp : Addr} {H : Hp} : Go tp H H := fun _ _ h => h
theorem Go.trans {tp : Addr} {H H1 H2 : Hp} (a : Go tp H H1) (b : Go tp H1 H2) : Go tp H H2 := fun x o h => b x o (a x o h)
theorem Go.of {tp : Addr} {H H' : Hp} (e : Same H H') : Go tp H H' := fun x o h => by
  by_cases z : x = tp
  · rw [z, del_same] at h
    exact nomatch h
  · rw [del_ne z] at h ⊢
    exact e x o h
theorem off_same {tp : Addr} {H : Hp} : Same (del H tp) H := fun x o h => by
  by_cases z : x = tp
  · rw [z, del_same] at h
    exact nomatch h
  · rw [del_ne z] at h
    exact h
theorem Go.at {tp a : Addr} {H H' : Hp} {o : HO} (g : Go tp H H') (h : H a = some o) (ne : a ≠ tp) : H' a = some o := by
  have := g a o (by rw [del_ne ne]; exact h)
  rw [del_ne ne] at this
  exact this
theorem Tape.same {K : PySem.W.Frag} {H H' : Hp} {tp ca : Addr} (t : Tape K H tp ca) (e : Same H H') : Tape K H' tp ca := by
  obtain ⟨cs, i, b, s, h1, h2, h3, h4⟩ := t
  exact ⟨cs, i, b, s, h1, e _ _ h2, e _ _ h3, h4⟩
theorem Tape.some {K : PySem.W.Frag} {H : Hp} {tp ca : Addr} (t : Tape K H tp ca) : ∃ u, H tp = .some u := by
  obtain ⟨cs, i, b, s, h1, h2, _⟩ := t
  exact ⟨_, h2⟩
theorem Tape.someC {K : PySem.W.Frag} {H : Hp} {tp ca : Addr} (t : Tape K H tp ca) : ∃ u, H ca = .some u := by
  obtain ⟨cs, i, b, s, h1, h2, h3, _⟩ := t
  exact ⟨_, h3⟩
theorem Tape.new {K : PySem.W.Frag} {H : Hp} {tp ca p : Addr} (t : Tape K H tp ca) (h : H p = none) : p ≠ tp := fun z => by
  obtain ⟨u, e⟩ := t.some
  rw [z, e] at h
  exact nomatch h
theorem Tape.newC {K : PySem.W.Frag} {H : Hp} {tp ca p : Addr} (t : Tape K H tp ca) (h : H p = none) : p ≠ ca := fun z => by
  obtain ⟨u, e⟩ := t.someC
  rw [z, e] at h
  exact nomatch h
theorem Tape.mut {K : PySem.W.Frag} {H : Hp} {tp ca p : Addr} {o : HO} (t : Tape K H tp ca) (h : p ≠ tp) (h' : p ≠ ca) : Tape K (upd H p o) tp ca := by
  obtain ⟨cs, i, b, s, h1, h2, h3, h4⟩ := t
  exact ⟨cs, i, b, s, h1, by rw [upd_ne (Ne.symm h)]; exact h2, by rw [upd_ne (Ne.symm h')]; exact h3, h4⟩
/-- from H to H', the tape in both -/
structure Rn (K : PySem.W.Frag) (tp ca : Addr) (H H' : Hp) : Prop where
  a : Tape K H tp ca
  b : Tape K H' tp ca
  g : Go tp H H'
section
variable {K : PySem.W.Frag} {tp ca : Addr} {H H' H1 H2 : Hp}
theorem Rn.refl (t : Tape K H tp ca) : Rn K tp ca H H := ⟨t, t, Go.refl⟩
theorem Rn.trans (r : Rn K tp ca H H1) (s : Rn K tp ca H1 H2) : Rn K tp ca H H2 := ⟨r.a, s.b, r.g.trans s.g⟩
theorem Rn.of (t : Tape K H tp ca) (s : Same H H') : Rn K tp ca H H' := ⟨t, t.same s, Go.of s⟩
theorem Rn.same (r : Rn K tp ca H H1) (s : Same H1 H2) : Rn K tp ca H H2 := r.trans (Rn.of r.b s)
theorem Rn.mut {p : Addr} {o : HO} (r : Rn K tp ca H H') (h : H p = none) : Rn K tp ca H (upd H' p o) := by
  refine ⟨r.a, r.b.mut (r.a.new h) (r.a.newC h), fun x u e => ?_⟩
  have e2 := r.g x u e
  by_cases z : x = tp
  · rw [z, del_same] at e
    exact nomatch e
  · rw [del_ne z] at e e2 ⊢
    rw [upd_ne (ne_of_none e h)]
    exact e2
theorem Rn.at {a : Addr} {o : HO} (r : Rn K tp ca H H') (h : H a = some o) (ne : a ≠ tp) : H' a = some o := r.g.at h ne
theorem Rn.free {p : Addr} (r : Rn K tp ca H H') (h : H' p = none) : H p = none := by
  cases e : H p with
  | none => rfl
  | some o =>
    have ne := r.b.new h
    rw [r.at e ne] at h
    exact nomatch h
theorem Rn.dp {v : V} {d : PyData} (r : Rn K tp ca H H') (h : Dp K (del H tp) v d) : Dp K (del H' tp) v d := dp_same r.g h
theorem Rn.sqt {a : Addr} {xs : List V} (r : Rn K tp ca H H') (h : SqT K (del H tp) a xs) : SqT K (del H' tp) a xs := same_sqt r.g h
end
/-- new data does not rest on the tape -/
theorem DpF.off {K : PySem.W.Frag} {H H' : Hp} {tp ca : Addr} {v : V} {d : PyData} (t : Tape K H tp ca) (f : DpF K H H' v d) : Dp K (del H' tp) v d := f _ fun b u h1 h2 => by
  rw [del_ne (t.new h1)]
  exact h2
theorem dp_on {K : PySem.W.Frag} {H : Hp} {tp : Addr} {v : V} {d : PyData} (h : Dp K (del H tp) v d) : Dp K H v d := dp_same off_same h
theorem mod_natI (z : Int) {n : Nat} (h : 0 < n) : ∃ r : Nat, r < n ∧ z % (n : Int) = (r : Nat) := by
  have h1 : 0 ≤ z % (n : Int) := Int.emod_nonneg _ (by omega)
  have h2 : z % (n : Int) < (n : Int) := Int.emod_lt_of_pos _ (by omega)
  exact ⟨(z % (n : Int)).toNat, by omega, by omega⟩
def spDraw (K : PySem.W.Frag) : Sp := fun vs H Q _ => ∃ (tp ca : Addr) (n : Nat), vs = [.ref tp, .int (n : Nat)] ∧ Tape K H tp ca ∧ 0 < n ∧ n ≤ 536870912 ∧ ∀ H' (r : Nat), r < n → Rn K tp ca H H' → Q (.int (r : Nat)) H'
def tCellS (K : PySem.W.Frag) : TS := fun D σ H => ∃ tp ca n c p, σ = [some (.ref tp), some (.int (n : Int)), c, p] ∧ Tape K H tp ca ∧ ∀ c' H', Tape K H' tp ca → Go tp H H' → D.nx [some (.ref tp), some (.int n), c', p] H'
theorem go_tape {K : PySem.W.Frag} {H : Hp} {tp ca : Addr} {cs : List Int} {i b s : Int} (i' b' s' : Int) (h1 : ca ≠ tp) (h2 : H tp = some (.lst (tapeL ca i b s))) (h3 : H ca = some (.lst (cs.map V.int))) (h4 : 0 ≤ i') (h5 : cs.length ≤ 1000) :
    Tape K (upd H tp (.lst (tapeL ca i' b' s'))) tp ca ∧ Go tp H (upd H tp (.lst (tapeL ca i' b' s'))) := by
  refine ⟨⟨cs, i', b', s', h1, upd_same, by rw [upd_ne h1]; exact h3, h4, h5⟩, fun x o h => ?_⟩
  by_cases z : x = tp
  · rw [z, del_same] at h
    exact nomatch h
  · rw [del_ne z] at h ⊢
    rw [upd_ne z]
    exact h
theorem ixN4 {j : Nat} (h : j < 4) : ixN 4 (j : Int) = some j := by
  unfold ixN
  rw [if_pos (by omega), if_pos (by omega)]
  rfl
section
variable {P : Program} {w : World} {K : PySem.W.Frag} {mg : Str → Option Value} {base : Heap} {C U fG : Addr}
theorem ok_draw (D : DefAt K mg "_law_draw" s_law_draw ["tape", "many"]) (T : Txt K mg) : CalX P w K mg base CX0 1 "_law_draw" ["tape", "many"] (spDraw K) := by
  refine D.ok sc_law_draw (fun vs H Q E h => ?_) (fun f cdv A outer s H vs Q E hr h => ?_)
  · obtain ⟨tp, ca, n, rfl, _⟩ := h
    rfl
  obtain ⟨tp, ca, n, rfl, hT, h0, hn, q⟩ := h
  refine ⟨_, (pss_cons (ps_conv (t' := tCellS K) (ps_if (PW.pt (pw_and (pt_cmpR op_eq (pe_ix ix_list (pv 0) pe_int (fun _ _ => rfl)) pe_int (nomark _)) (pw_and1 (pt_cmpR op_lt (pe_ix ix_list (pv 0) pe_int (fun _ _ => rfl)) (pe_callB call_len_seq (by rfl) T.len PySem.boot_len (pa_cons (pe_ix ix_list (pv 0) pe_int (fun _ _ => rfl)) pa_nil)) (nomark _)))))
      (pss_cons (ps_set (i := 2) sc_law_draw.nd rfl (.inl rfl) (pe_ix ix_list (pe_ix ix_list (pv 0) pe_int (fun _ _ => rfl)) (pe_ix ix_list (pv 0) pe_int (fun _ _ => rfl)) (fun _ _ => rfl)))
      (pss_cons (ps_augS (pv 0) pe_int pg_getL pe_int ip_add set_list)
      (pss_one (ps_if (pt_cmpR op_ge (pv 2) (pe_op op_pow pe_int pe_int) (nomark _))
        (pss_one (ps_asg (pv 2) (pg_sub (pv 0) pe_int set_list)))
        (pss_one (ps_asg (pe_op op_mod (pe_callTy call_int1 (by rfl) T.int boot_int (pa_cons (pe_op op_add (pe_op op_add (pe_op op_mul (pe_ix ix_list (pv 0) pe_int (fun _ _ => rfl)) pe_int) (pe_op op_mul (pv 2) pe_int)) pe_int) pa_nil)) pe_int) (pg_sub (pv 0) pe_int set_list))))))) pss_nil) (by
      rintro D σ H ⟨tp, ca, n, c, p, rfl, ⟨cs, i, b, s, h1, h2, h3, h4, h5⟩, k⟩
      have sx := SqL.of (K := K) h2
      have sc := SqL.of (K := K) h3
      refine ⟨_, rfl, tp, _, 2, .int b, rfl, rfl, sx, rfl, rfl, _, rfl, ?_⟩
      refine ite2 (fun _ => ?_) (fun _ => ?_)
      · refine ⟨_, rfl, tp, _, 1, .int i, rfl, rfl, sx, rfl, _, rfl, tp, _, 0, .ref ca, rfl, rfl, sx, rfl, ca, _, rfl, .inl sc, _, _, rfl, rfl, _, rfl, ?_⟩
        refine ite2 (fun c2 => ?_) (fun c2 => ?_)
        · have c2' : i < ((cs.map V.int).length : Int) := of_decide_eq_true c2
          rw [List.length_map] at c2'
          have hi : i.toNat < cs.length := by omega
          have ei : ((i.toNat : Nat) : Int) = i := by omega
          have e1 : (cs.map V.int)[i.toNat]? = some (.int (cs[i.toNat])) := by rw [List.getElem?_map, List.getElem?_eq_getElem hi]; rfl
          have e2 := atI_nat e1
          rw [ei] at e2
          generalize cs[i.toNat] = z at e2
          refine ⟨_, rfl, tp, _, 0, .ref ca, rfl, rfl, sx, rfl, _, rfl, tp, _, 1, .int i, rfl, rfl, sx, rfl, ca, _, i, .int z, rfl, rfl, sc, e2, ?_⟩
          refine ⟨_, rfl, tp, _, 1, .int i, rfl, rfl, sx, rfl, _, _, rfl, rfl, tp, _, 1, 1, rfl, rfl, h2, ixN4 (j := 1) (by decide), ?_⟩
          have g1 := go_tape (K := K) (i + 1) b s h1 h2 h3 (by omega) h5
          show _
          have u1 : (upd H tp (.lst ((tapeL ca i b s).set 1 (V.int (i + 1))))) = upd H tp (.lst (tapeL ca (i + 1) b s)) := rfl
          rw [u1]
          have k2 : (upd H tp (.lst (tapeL ca (i + 1) b s))) tp = some (.lst (tapeL ca (i + 1) b s)) := upd_same
          have k3 : (upd H tp (.lst (tapeL ca (i + 1) b s))) ca = some (.lst (cs.map V.int)) := by rw [upd_ne h1]; exact h3
          revert g1 k2 k3
          generalize upd H tp (.lst (tapeL ca (i + 1) b s)) = H1
          intro g1 k2 k3
          have sx1 := SqL.of (K := K) k2
          refine ⟨_, rfl, _, _, rfl, rfl, ⟨by decide, by decide, by decide⟩, _, _, rfl, rfl, _, rfl, ?_⟩
          refine ite2 (fun c3 => ?_) (fun c3 => ?_)
          · refine ⟨_, rfl, _, rfl, tp, _, 2, 2, rfl, rfl, k2, ixN4 (j := 2) (by decide), ?_⟩
            have g2 := go_tape (K := K) (i + 1) z s h1 k2 k3 (by omega) h5
            exact k _ _ g2.1 (g1.2.trans g2.2)
          · refine ⟨_, rfl, tp, _, 3, .int s, rfl, rfl, sx1, rfl, _, _, rfl, rfl, .inr ⟨by decide, by decide⟩, _, rfl, _, _, rfl, rfl, .inr ⟨by decide, by decide⟩, _, _, rfl, rfl, _, _, rfl, rfl, .inl ⟨_, rfl, _, _, rfl, rfl, (show (0 : Int) < 2147483647 by decide), ?_⟩⟩
            refine ⟨_, rfl, tp, _, 3, 3, rfl, rfl, k2, ixN4 (j := 3) (by decide), ?_⟩
            have g2 := go_tape (K := K) (i + 1) b ((s * 48271 + z * 7919 + 101) % 2147483647) h1 k2 k3 (by omega) h5
            exact k _ _ g2.1 (g1.2.trans g2.2)
        · exact k _ _ ⟨cs, i, b, s, h1, h2, h3, h4, h5⟩ Go.refl
      · exact k _ _ ⟨cs, i, b, s, h1, h2, h3, h4, h5⟩ Go.refl))
    (pss_cons (ps_if (pt_cmpR op_gt (pe_ix ix_list (pv 0) pe_int (fun _ _ => rfl)) pe_int (nomark _))
      (pss_cons (ps_set (i := 3) sc_law_draw.nd rfl (.inl rfl) (pe_op op_mod (pe_callTy call_int1 (by rfl) T.int boot_int (pa_cons (pe_ix ix_list (pv 0) pe_int (fun _ _ => rfl)) pa_nil)) (pv 1)))
      (pss_cons (ps_asg (pe_op op_fdiv (pe_ix ix_list (pv 0) pe_int (fun _ _ => rfl)) (pv 1)) (pg_sub (pv 0) pe_int set_list))
      (pss_one (ps_ret (pv 3))))) pss_nil)
    (pss_cons (ps_asg (pe_op op_mod (pe_callTy call_int1 (by rfl) T.int boot_int (pa_cons (pe_op op_add (pe_op op_mul (pe_ix ix_list (pv 0) pe_int (fun _ _ => rfl)) pe_int) pe_int) pa_nil)) pe_int) (pg_sub (pv 0) pe_int set_list))
    (pss_one (ps_ret (pe_op op_mod (pe_callTy call_int1 (by rfl) T.int boot_int (pa_cons (pe_op op_fdiv (pe_ix ix_list (pv 0) pe_int (fun _ _ => rfl)) pe_int) pa_nil)) (pv 1))))))), ?_⟩
  refine ⟨tp, ca, n, none, none, rfl, hT, fun c H1 hT1 g1 => ?_⟩
  obtain ⟨cs, i, b, s, h1, h2, h3, h4, h5⟩ := hT1
  have sx := SqL.of (K := K) h2
  have hn0 : (0 : Int) < (n : Nat) := by omega
  refine ⟨_, rfl, tp, _, 2, .int b, rfl, rfl, sx, rfl, _, _, rfl, rfl, _, rfl, ?_⟩
  refine ite2 (fun _ => ?_) (fun _ => ?_)
  · obtain ⟨r, r1, r2⟩ := mod_natI b h0
    refine ⟨_, rfl, tp, _, 2, .int b, rfl, rfl, sx, rfl, .inl ⟨_, rfl, _, rfl, _, _, rfl, rfl, hn0, ?_⟩⟩
    refine ⟨_, rfl, tp, _, 2, .int b, rfl, rfl, sx, rfl, _, rfl, _, _, rfl, rfl, ⟨hn0, by omega⟩, ?_⟩
    refine ⟨_, rfl, tp, _, 2, 2, rfl, rfl, h2, ixN4 (j := 2) (by decide), ?_⟩
    have g2 := go_tape (K := K) i (b / (n : Nat)) s h1 h2 h3 h4 h5
    refine ⟨_, rfl, ?_⟩
    show Q (.int (b % (n : Nat))) _
    rw [r2]
    exact q _ r r1 ⟨hT, g2.1, g1.trans g2.2⟩
  · refine ⟨_, rfl, tp, _, 3, .int s, rfl, rfl, sx, rfl, _, _, rfl, rfl, .inr ⟨by decide, by decide⟩, _, _, rfl, rfl, .inl ⟨_, rfl, _, _, rfl, rfl, (show (0 : Int) < 2147483647 by decide), ?_⟩⟩
    refine ⟨_, rfl, tp, _, 3, 3, rfl, rfl, h2, ixN4 (j := 3) (by decide), ?_⟩
    have g2 := go_tape (K := K) i b ((s * 39373 + 60013) % 2147483647) h1 h2 h3 h4 h5
    obtain ⟨r, r1, r2⟩ := mod_natI ((s * 39373 + 60013) % 2147483647 / 128) h0
    refine ⟨_, rfl, tp, _, 3, .int ((s * 39373 + 60013) % 2147483647), rfl, rfl, SqL.of upd_same, rfl, _, _, rfl, rfl, ⟨by decide, by decide⟩, .inl ⟨_, rfl, _, rfl, _, _, rfl, rfl, hn0, ?_⟩⟩
    show Q (.int ((s * 39373 + 60013) % 2147483647 / 128 % (n : Nat))) _
    rw [r2]
    exact q _ r r1 ⟨hT, g2.1, g1.trans g2.2⟩
end
end K23
set_option Elab.async false
set_option linter.all false
set_option maxRecDepth 100000
set_option maxHeartbeats 4000000
namespace L2
open PySem PySem.Spec PyProof.Rows
/-! ### a def called by keywords alone -/
structure KwF (fd : FuncData) (ps ks : List Str) (g : {α : Type} → List α → List α) : Prop where
  to : ∀ (s : Shared) (ws : List Value), ws.length = ks.length → BindsTo s fd ⟨[], ks.zip ws⟩ (ps.zip (g ws))
  rel : ∀ {zs : List V} {ws : List Value}, Vals zs ws → Vals (g zs) (g ws)
structure KwAt (K : PySem.W.Frag) (mg : Str → Option Value) (x : Str) (ps ks : List Str) (g : {α : Type} → List α → List α) : Prop where
  ex : ∃ (f : Addr) (fd : FuncData), mg x = some (.ref f) ∧ LkF K f fd ∧ KwF fd ps ks g
def tCallKS (sp : Sp) (n : Nat) (gV : List V → List V) (E : St → XK) (tk : TA) : TE := fun σ H Q => tk σ H fun zs H2 => zs.length = n ∧ sp (gV zs) H2 Q (E σ)
section
variable {X : Cx} {CX : CXT} {j k : Nat} {ps ks : List Str} {sp : Sp} {E : St → XK} {x : Str} {p pos : Pos} {kws : List Keyword} {tk : TA} {g : {α : Type} → List α → List α}
theorem run_kw0 {f : Addr} {fd : FuncData} {pins : List (Addr × Obj)} {σ : St} {H : Hp} {s : Shared} {Q : VK} {ws : List Value} {zs : List V} (F : FnOk X.prog X.w X.K X.mg X.base CX k f fd ps sp) (hr : Room k X.A) (hb : KwF fd ps ks g) (hx : PassesAt CX X σ (E σ))
    (I : Inv X pins σ H s) (rz : Vals zs ws) (hl : zs.length = ks.length) (h : sp (g zs) H Q (E σ)) : wpAny (model X.prog X.w) X.A (call (.ref f) [] (ks.zip ws)) (EP X pins σ Q) X.xe s := by
  have r2 : Vals (g zs) (g ws) := hb.rel rz
  refine wpAny_call (codeAny_mono (F.run X.A X.stack s H ⟨[], ks.zip ws⟩ (g ws) (g zs) Q (E σ) hr I.env0 (hb.to s ws (rz.length.symm.trans hl)) r2 h) fun r s' hq => ?_)
  cases r with
  | error e => exact hx pins H s e s' I hq
  | ok fl =>
    cases fl with
    | ret u => exact I.after hq
    | next => exact False.elim hq
    | brk => exact False.elim hq
    | cont => exact False.elim hq
theorem pe_kw (c : CalX X.prog X.w X.K X.mg X.base CX k x ps sp) (D : KwAt X.K X.mg x ps ks g) (hr : Room j X.A) (hk : k ≤ j) (hg : Gl X x) (hx : ∀ σ, PassesAt CX X σ (E σ)) (hkw : PK X kws tk)
    (hdb : (x == ("__debug__" : Str)) = false := by decide) (hall : (backToKw pos (keywordEach kws X.env)).all (·.1.isSome) = true := by rfl) (hks : (backToKw pos (keywordEach kws X.env)).filterMap (·.1) = ks := by rfl)
    (hpl : ((backTo pos (starEach [] X.env)).any (·.1) || (backToKw pos (keywordEach kws X.env)).any (·.1.isNone)) = false := by rfl) :
    PE X (.Call (.Name x p) [] kws pos) (tCallKS sp ks.length g E tk) := by
  obtain ⟨f, fd, F, hm, kp, _, lk⟩ := c.ex
  obtain ⟨f', fd', hm', lk', kb⟩ := D.ex
  rw [hm] at hm'
  injection hm' with hm'
  injection hm' with hm'
  subst hm'
  obtain rfl := lk.inj lk'
  refine ⟨fun pins s σ H Q I h => ?_⟩
  refine wpAny_Call_Name_kw (ld_glob I hg hm ?_ hdb)
  refine PySem.W.callWith_KW0 (first := []) (h₀ := X.base) I.ok.mod.kin kp hall ?_ hpl
  refine thn (hkw.run pos pins s σ H _ I h) fun ws s2 ⟨zs, H2, I2, rz, hl, q2⟩ => ⟨I2.kIn, ?_⟩
  rw [hks]
  exact run_kw0 F (hr.mono hk) kb (hx σ) I2 rz hl q2
end
section
variable {X : Cx} {CX : CXT} {j k : Nat} {x : Str} {ps : List Str} {sp : Sp} {E : St → XK} {p pos : Pos} {e : Expr} {es : List Expr} {t : TA}
/-- a call whose error goes to a try of this def -/
theorem pe_cxS (c : CalX X.prog X.w X.K X.mg X.base CX k x ps sp) (hr : Room j X.A) (hk : k ≤ j) (hg : Gl X x) (hx : ∀ σ, PassesAt CX X σ (E σ)) (ha : PA X (e :: es) t)
    (hdb : (x == ("__debug__" : Str)) = false := by decide) (he : starEach (e :: es) X.env = (false, eval e X.env) :: starEach es X.env := by rfl) (hpl : (backTo pos (starEach es X.env)).any (·.1) = false := by rfl) :
    PE X (.Call (.Name x p) (e :: es) [] pos) (tCallS sp E t) := by
  obtain ⟨f, fd, F, hm, kp, b, _⟩ := c.ex
  exact pe_callS F (hr.mono hk) hg hm kp b hx ha hdb he hpl
end
/-! ### isinstance(e, C) of a caught error with a dict -/
def rIsX (K : PySem.W.Frag) (a : Addr) (cls : Value) (d : Option Addr) : List V → Hp → VK → Prop := fun xs H Q => ∃ (D dd : Addr) (fs : List (Str × V)) (c : V) (cv : Value) (b : Bool), cls = .ref D ∧ d = some dd ∧ ExcC K D ∧ xs = [.ref a, c] ∧ (∀ u, RelV c u → u = cv) ∧ PySem.W.kitOne K (.ref D) cv = some b ∧ H dd = some (.xd fs) ∧ Q (.bl b) H
theorem call_isX {X : Cx} {a : Addr} {oe : Obj} {cls : Value} {d : Option Addr} {pn : List (Addr × Obj)} (hz : Zc cls d oe) (hf : ∃ vs, oe.data = .fields vs) : CallR (X.suite a ((a, oe) :: pn)) (.builtin "isinstance") (rIsX X.K a cls d) := by
  intro pins s σ H xs us Q I r h
  obtain ⟨D, dd, fs, c, cv, b, rfl, rfl, C, rfl, hcv, e, ea, q⟩ := h
  cases r with
  | cons rx rr =>
    cases rr with
    | cons rt rr =>
      cases rr
      cases rx
      have ec := hcv _ rt
      subst ec
      obtain ⟨hget, _⟩ := I.pin (a, oe) (List.mem_append.mpr (.inl List.mem_cons_self))
      obtain ⟨vs, hd⟩ := hf
      have hx : ObjOk X.prog X.w H s.heap dd (.xd fs) := I.hok dd _ ea
      obtain ⟨mA, hns, hr⟩ := hx
      obtain ⟨od, ho, hl⟩ := lookIn_ns hns
      have J : PySem.W.InstAt s.heap a oe D (some od) := ⟨hget, hz.1, by unfold PySem.W.notCls; rw [hd] <;> rfl, by rw [hz.2]; exact ho⟩
      have hcl : (PySem.W.clsIn X.K D).isSome = true := by
        obtain ⟨cd, hc, _⟩ := PySem.W.any_some C.hd
        rw [hc]
        rfl
      exact PySem.W.kia_one (PySem.W.kitx_exc hcl C.hg C.hk C.hs C.ha C.hn C.ht C.hm) I.kIn J e (fun z => nomatch z) fun tk => ⟨.bl b, H, I.tok tk, rfl, q⟩
end L2
set_option Elab.async false
set_option linter.all false
set_option maxRecDepth 100000
set_option maxHeartbeats 4000000
namespace K23
open PySem PySem.Spec PyProof.Rows L2 Dt
/-! ### _law_tape -/
def spTape (K : PySem.W.Frag) : Sp := fun vs H Q _ => ∃ (a : Addr) (ns : List Int), vs = [.ref a] ∧ SqL K H a (ns.map V.int) ∧ ns.length ≤ 63 ∧ ∀ H' tp ca, Same H H' → Tape K H' tp ca → H tp = none → Q (.ref tp) H'
section
variable {P : Program} {w : World} {K : PySem.W.Frag} {mg : Str → Option Value} {base : Heap} {C U fG : Addr}
theorem ok_tape (D : DefAt K mg "_law_tape" s_law_tape ["script"]) (T : Txt K mg) (mabs : mg "abs" = none) : CalX P w K mg base CX0 1 "_law_tape" ["script"] (spTape K) := by
  refine D.ok sc_law_tape (fun vs H Q E h => ?_) (fun f cdv A outer s H vs Q E hr h => ?_)
  · obtain ⟨a, ns, rfl, _⟩ := h
    rfl
  obtain ⟨a, ns, rfl, ha, hl, q⟩ := h
  refine ⟨_, (pss_one (ps_ret (pe_lst (pa_cons (pe_lc (own := [("cell", 1)]) (g := gName 1) (tt := tYes) (by rfl) sc_law_tape.nd (pi_list (pv 0)) (blkOk_by (own := [("cell", 1)]) (N := N_law_tape) (sc := defScope s_law_tape) (by decide +kernel)) (fun _ _ _ _ _ => pg_name (i := 1) sc_law_tape.nd rfl (Or.inl rfl)) (fun _ _ _ _ _ => pts_nil) (fun _ _ _ _ _ => by exact (pe_op op_add (pe_op op_mul (pe_callB call_abs (by rfl) mabs (by decide +kernel) (pa_cons (pe_callTy call_int1 (by rfl) T.int boot_int (pa_cons (pv 1) pa_nil)) pa_nil)) pe_int) (pe_callTy call_int1 (by rfl) T.int boot_int (pa_cons (pe_cmpR op_lt (pv 1) pe_int (nomark _)) pa_nil))))) (pa_cons pe_int (pa_cons pe_int (pa_cons pe_int pa_nil))))))), ?_⟩
  refine ⟨_, rfl, a, rfl, ⟨_, ha⟩, fun Dl hDl => lc_list (K := K) (a := a) (xs := ns.map V.int) (fun i H' => Same H H' ∧ ∃ cs : List Int, H' Dl = some (.lst (cs.map V.int)) ∧ cs.length = i) ⟨same_new hDl, [], upd_same, rfl⟩ (fun i H' _ ⟨sm, _⟩ => sm.seq ha) ?_ ?_⟩
  · rintro i x H' hi ⟨sm, cs, hD, hcl⟩
    have hil := (List.getElem?_eq_some_iff.mp hi).1
    rw [List.length_map] at hil
    obtain ⟨c, rfl⟩ : ∃ c, x = V.int c := by
      rw [List.getElem?_map] at hi
      obtain ⟨c, _, e⟩ := Option.map_eq_some_iff.mp hi
      exact ⟨c, e.symm⟩
    refine ⟨rfl, ?_⟩
    refine ⟨_, rfl, .inl ⟨c, rfl, _, rfl, _, _, rfl, rfl, .inr ⟨by decide, by decide⟩, _, rfl, _, _, rfl, rfl, .inr ⟨_, rfl, _, _, rfl, rfl, ?_⟩⟩⟩
    refine ⟨_, hD, small1000 (by rw [List.length_map]; omega), same_mut sm hDl, cs ++ [_], by rw [upd_same, List.map_append]; rfl, by rw [List.length_append]; show cs.length + 1 = i + 1; omega⟩
  · rintro H' ⟨sm, cs, hD, hcl⟩
    rw [List.length_map] at hcl
    refine ⟨(by show 4 ≤ sizeLine; decide), fun tp htp => ?_⟩
    have hne : Dl ≠ tp := fun z => by rw [← z, hD] at htp; exact nomatch htp
    exact q _ tp Dl (sm.trans (same_new htp)) ⟨cs, 0, 0, 23017, hne, upd_same, by rw [upd_ne hne]; exact hD, by omega, by omega⟩ (sm.free htp)
end
/-! ### _law_same: equal data -/
def spSame (K : PySem.W.Frag) (n : Nat) : Sp := fun vs H Q _ => ∃ (x y : V) (d : PyData), vs = [x, y] ∧ Dp K H x d ∧ Dp K H y d ∧ plainN n d ∧ ∀ H', Same H H' → Q (.bl true) H'
theorem kit_tl_tup {K : PySem.W.Frag} : PySem.W.kitAny K (.type "tuple") [.type "tuple", .type "list"] = some true := kitAny_cons (b := true) (kit_ty (by decide +kernel)) (fun z => nomatch z) (fun _ => rfl)
theorem kit_tl_lst {K : PySem.W.Frag} : PySem.W.kitAny K (.type "list") [.type "tuple", .type "list"] = some true := kitAny_cons (b := false) (kit_ty (by decide +kernel)) (fun _ => kitAny_cons (b := true) (kit_ty (by decide +kernel)) (fun z => nomatch z) (fun _ => rfl)) (fun z => nomatch z)
theorem dps_pair {K : PySem.W.Frag} {H : Hp} {xs ys : List V} {ds : List PyData} (hx : DpAll K H xs ds) (hy : DpAll K H ys ds) {i : Nat} (h : i < ds.length) : ∃ v1 v2 d, xs[i]? = some v1 ∧ ys[i]? = some v2 ∧ ds[i]? = some d ∧ Dp K H v1 d ∧ Dp K H v2 d := by
  have l1 := dps_len hx
  have l2 := dps_len hy
  have e1 : xs[i]? = some (xs[i]'(by omega)) := List.getElem?_eq_getElem (by omega)
  have e2 : ys[i]? = some (ys[i]'(by omega)) := List.getElem?_eq_getElem (by omega)
  obtain ⟨d1, f1, g1⟩ := dps_at hx e1
  obtain ⟨d2, f2, g2⟩ := dps_at hy e2
  rw [f1] at f2
  obtain rfl := Option.some.inj f2
  exact ⟨_, _, d1, e1, e2, f1, g1, g2⟩
section
variable {P : Program} {w : World} {K : PySem.W.Frag} {mg : Str → Option Value} {base : Heap} {C U fG : Addr}
theorem ok_same_step {n : Nat} (D : DefAt K mg "_law_same" s_law_same ["one", "other"]) (T : Txt K mg) (GSame : CalX P w K mg base CX0 n "_law_same" ["one", "other"] (spSame K n)) : CalX P w K mg base CX0 (n + 1) "_law_same" ["one", "other"] (spSame K (n + 1)) := by
  refine D.ok sc_law_same (fun vs H Q E h => ?_) (fun f cdv A outer s H vs Q E hr h => ?_)
  · obtain ⟨x, y, d, rfl, _⟩ := h
    rfl
  obtain ⟨x, y, d, rfl, hx, hy, hp, q⟩ := h
  refine ⟨_, (pss_cons (ps_if (PW.pt (pw_or (pt_cmpR op_isN (pv 0) pe_non (nomark _)) (pw_or1 (pt_cmpR op_isN (pv 1) pe_non (nomark _))))) 
      (pss_one (ps_ret (pe_and (pe_cmpR op_isN (pv 0) pe_non (nomark _)) (pe_one (pe_cmpR op_isN (pv 1) pe_non (nomark _)))))) pss_nil) 
    (pss_cons (ps_if (PW.pt (pw_or (pt_val (pe_callB call_isi (by rfl) T.isinstance boot_isinstance (pa_cons (pv 0) (pa_cons (pe_bltn (v := .ty "bool") (by rfl) T.bool (by decide +kernel) rfl) pa_nil)))) (pw_or1 (pt_val (pe_callB call_isi (by rfl) T.isinstance boot_isinstance (pa_cons (pv 1) (pa_cons (pe_bltn (v := .ty "bool") (by rfl) T.bool (by decide +kernel) rfl) pa_nil))))))) 
      (pss_one (ps_ret (pe_and (pe_callB call_isi (by rfl) T.isinstance boot_isinstance (pa_cons (pv 0) (pa_cons (pe_bltn (v := .ty "bool") (by rfl) T.bool (by decide +kernel) rfl) pa_nil))) (pe_and (pe_callB call_isi (by rfl) T.isinstance boot_isinstance (pa_cons (pv 1) (pa_cons (pe_bltn (v := .ty "bool") (by rfl) T.bool (by decide +kernel) rfl) pa_nil))) (pe_one (pe_cmpR op_eq (pv 0) (pv 1) (nomark _))))))) pss_nil) 
    (pss_cons (ps_if (PW.pt (pw_or (pt_val (pe_callB call_isi (by rfl) T.isinstance boot_isinstance (pa_cons (pv 0) (pa_cons (pe_bltn (v := .ty "int") (by rfl) T.int boot_int rfl) pa_nil)))) (pw_or1 (pt_val (pe_callB call_isi (by rfl) T.isinstance boot_isinstance (pa_cons (pv 1) (pa_cons (pe_bltn (v := .ty "int") (by rfl) T.int boot_int rfl) pa_nil))))))) 
      (pss_one (ps_ret (pe_and (pe_callB call_isi (by rfl) T.isinstance boot_isinstance (pa_cons (pv 0) (pa_cons (pe_bltn (v := .ty "int") (by rfl) T.int boot_int rfl) pa_nil))) (pe_and (pe_callB call_isi (by rfl) T.isinstance boot_isinstance (pa_cons (pv 1) (pa_cons (pe_bltn (v := .ty "int") (by rfl) T.int boot_int rfl) pa_nil))) (pe_one (pe_cmpR op_eq (pv 0) (pv 1) (nomark _))))))) pss_nil) 
    (pss_cons (ps_if (PW.pt (pw_or (pt_val (pe_callB call_isi (by rfl) T.isinstance boot_isinstance (pa_cons (pv 0) (pa_cons (pe_bltn (v := .ty "str") (by rfl) T.str (by decide +kernel) rfl) pa_nil)))) (pw_or1 (pt_val (pe_callB call_isi (by rfl) T.isinstance boot_isinstance (pa_cons (pv 1) (pa_cons (pe_bltn (v := .ty "str") (by rfl) T.str (by decide +kernel) rfl) pa_nil))))))) 
      (pss_one (ps_ret (pe_and (pe_callB call_isi (by rfl) T.isinstance boot_isinstance (pa_cons (pv 0) (pa_cons (pe_bltn (v := .ty "str") (by rfl) T.str (by decide +kernel) rfl) pa_nil))) (pe_and (pe_callB call_isi (by rfl) T.isinstance boot_isinstance (pa_cons (pv 1) (pa_cons (pe_bltn (v := .ty "str") (by rfl) T.str (by decide +kernel) rfl) pa_nil))) (pe_one (pe_cmpR op_eq (pv 0) (pv 1) (nomark _))))))) pss_nil) 
    (pss_cons (ps_if (PW.pt (pw_or (pt_cmpR op_ne (pe_callB call_isi (by rfl) T.isinstance boot_isinstance (pa_cons (pv 0) (pa_cons (pe_bltn (v := .ty "tuple") (by rfl) T.tuple PyProof.Rows.boot_tuple rfl) pa_nil))) (pe_callB call_isi (by rfl) T.isinstance boot_isinstance (pa_cons (pv 1) (pa_cons (pe_bltn (v := .ty "tuple") (by rfl) T.tuple PyProof.Rows.boot_tuple rfl) pa_nil))) (nomark _)) (pw_or1 (pt_cmpR op_ne (pe_callB call_isi (by rfl) T.isinstance boot_isinstance (pa_cons (pv 0) (pa_cons (pe_bltn (v := .ty "list") (by rfl) T.list (by decide +kernel) rfl) pa_nil))) (pe_callB call_isi (by rfl) T.isinstance boot_isinstance (pa_cons (pv 1) (pa_cons (pe_bltn (v := .ty "list") (by rfl) T.list (by decide +kernel) rfl) pa_nil))) (nomark _))))) 
      (pss_one (ps_ret pe_bl)) pss_nil) 
    (pss_cons (ps_if (PW.pt (pw_or (pt_not (pt_val (pe_callB call_isiT (by rfl) T.isinstance boot_isinstance (pa_cons (pv 0) (pa_cons (pe_tup (pa_cons (pe_bltn (v := .ty "tuple") (by rfl) T.tuple PyProof.Rows.boot_tuple rfl) (pa_cons (pe_bltn (v := .ty "list") (by rfl) T.list (by decide +kernel) rfl) pa_nil))) pa_nil))))) (pw_or1 (pt_cmpR op_ne (pe_callB call_len_seq (by rfl) T.len PySem.boot_len (pa_cons (pv 0) pa_nil)) (pe_callB call_len_seq (by rfl) T.len PySem.boot_len (pa_cons (pv 1) pa_nil)) (nomark _))))) 
      (pss_one (ps_ret pe_bl)) pss_nil) 
    (pss_cons (ps_for PassesOwn.never rfl (pi_range1 (by rfl) T.range (pa_cons (pe_callB call_len_seq (by rfl) T.len PySem.boot_len (pa_cons (pv 0) pa_nil)) pa_nil)) (pg_name (i := 2) sc_law_same.nd rfl (Or.inl rfl)) 
      (pss_one (ps_if (pt_not (pt_val (pe_c0 GSame hr (Nat.le_refl _) rfl (pa_cons (pe_ix ix_seq (pv 0) (pv 2) (fun _ _ => rfl)) (pa_cons (pe_ix ix_seq (pv 1) (pv 2) (fun _ _ => rfl)) pa_nil))))) 
        (pss_one (ps_ret pe_bl)) pss_nil))) 
    (pss_one (ps_ret pe_bl))))))))), ?_⟩
  have kx := kind_dp hx
  have ky := kind_dp hy
  have sH : Same H H := fun _ _ z => z
  cases hx with
  | non =>
    cases hy
    refine ⟨_, rfl, rfl, _, rfl, ?_⟩
    refine iteT (iteT ?_)
    refine ⟨_, rfl, rfl, _, rfl, ?_⟩
    refine iteT ?_
    exact ⟨_, rfl, rfl, q H sH⟩
  | bl b =>
    cases hy
    refine ⟨_, rfl, rfl, _, rfl, ?_⟩
    refine iteF ?_
    refine ⟨_, rfl, rfl, _, rfl, ?_⟩
    refine iteF ?_
    refine isi_read rfl kx.1 (kit_bool kx.2) ⟨_, rfl, ?_⟩
    refine iteT (iteT ?_)
    refine isi_read rfl kx.1 (kit_bool kx.2) ⟨_, rfl, ?_⟩
    refine iteT ?_
    refine isi_read rfl ky.1 (kit_bool ky.2) ⟨_, rfl, ?_⟩
    refine iteT ?_
    refine ⟨_, rfl, _, rfl, rfl, ?_⟩
    have e : (decide (V.bl b = V.bl b)) = true := decide_eq_true rfl
    rw [e]
    exact q H sH
  | int i =>
    cases hy
    refine ⟨_, rfl, rfl, _, rfl, ?_⟩
    refine iteF ?_
    refine ⟨_, rfl, rfl, _, rfl, ?_⟩
    refine iteF ?_
    refine isi_read rfl kx.1 (kit_bool kx.2) ⟨_, rfl, ?_⟩
    refine iteF ?_
    refine isi_read rfl ky.1 (kit_bool ky.2) ⟨_, rfl, ?_⟩
    refine iteF ?_
    refine isi_read rfl kx.1 (kit_int kx.2) ⟨_, rfl, ?_⟩
    refine iteT (iteT ?_)
    refine isi_read rfl kx.1 (kit_int kx.2) ⟨_, rfl, ?_⟩
    refine iteT ?_
    refine isi_read rfl ky.1 (kit_int ky.2) ⟨_, rfl, ?_⟩
    refine iteT ?_
    refine ⟨_, rfl, _, rfl, rfl, ?_⟩
    have e : (decide (V.int i = V.int i)) = true := decide_eq_true rfl
    rw [e]
    exact q H sH
  | str z =>
    cases hy
    refine ⟨_, rfl, rfl, _, rfl, ?_⟩
    refine iteF ?_
    refine ⟨_, rfl, rfl, _, rfl, ?_⟩
    refine iteF ?_
    refine isi_read rfl kx.1 (kit_bool kx.2) ⟨_, rfl, ?_⟩
    refine iteF ?_
    refine isi_read rfl ky.1 (kit_bool ky.2) ⟨_, rfl, ?_⟩
    refine iteF ?_
    refine isi_read rfl kx.1 (kit_int kx.2) ⟨_, rfl, ?_⟩
    refine iteF ?_
    refine isi_read rfl ky.1 (kit_int ky.2) ⟨_, rfl, ?_⟩
    refine iteF ?_
    refine isi_read rfl kx.1 (kit_str kx.2) ⟨_, rfl, ?_⟩
    refine iteT (iteT ?_)
    refine isi_read rfl kx.1 (kit_str kx.2) ⟨_, rfl, ?_⟩
    refine iteT ?_
    refine isi_read rfl ky.1 (kit_str ky.2) ⟨_, rfl, ?_⟩
    refine iteT ?_
    refine ⟨_, rfl, _, rfl, rfl, ?_⟩
    have e : (decide (V.str z = V.str z)) = true := decide_eq_true rfl
    rw [e]
    exact q H sH
  | @lst a xs ds hsx hax =>
    cases hy with
    | @lst b ys _ hsy hay =>
    obtain ⟨hp1, hp2⟩ := hp
    have l1 := dps_len hax
    have l2 := dps_len hay
    have hsl := sizeLine_eq
    refine ⟨_, rfl, rfl, _, rfl, ?_⟩
    refine iteF ?_
    refine ⟨_, rfl, rfl, _, rfl, ?_⟩
    refine iteF ?_
    refine isi_read rfl kx.1 (kit_bool kx.2) ⟨_, rfl, ?_⟩
    refine iteF ?_
    refine isi_read rfl ky.1 (kit_bool ky.2) ⟨_, rfl, ?_⟩
    refine iteF ?_
    refine isi_read rfl kx.1 (kit_int kx.2) ⟨_, rfl, ?_⟩
    refine iteF ?_
    refine isi_read rfl ky.1 (kit_int ky.2) ⟨_, rfl, ?_⟩
    refine iteF ?_
    refine isi_read rfl kx.1 (kit_str kx.2) ⟨_, rfl, ?_⟩
    refine iteF ?_
    refine isi_read rfl ky.1 (kit_str ky.2) ⟨_, rfl, ?_⟩
    refine iteF ?_
    refine isi_read rfl kx.1 (kit_tup kx.2) ?_
    refine isi_read rfl ky.1 (kit_tup ky.2) ⟨rfl, _, rfl, ?_⟩
    refine iteF ?_
    refine isi_read rfl kx.1 (kit_list kx.2) ?_
    refine isi_read rfl ky.1 (kit_list ky.2) ⟨rfl, _, rfl, ?_⟩
    refine iteF ?_
    refine ⟨_, rfl, (by show 2 ≤ sizeLine; decide), fun t ht => ?_⟩
    have s1 : Same H (upd H t (.tup [.ty "tuple", .ty "list"])) := same_new ht
    have kx1 := same_kind s1 kx
    refine ⟨_, t, _, _, _, _, rfl, upd_same, .cons (.ty _) (.cons (.ty _) .nil), kx1.1, kit_tl_lst, _, rfl, ?_⟩
    refine iteF ?_
    revert s1
    generalize upd H t (.tup [.ty "tuple", .ty "list"]) = H1
    intro s1
    refine ⟨_, rfl, a, xs, rfl, .inl (s1.seq hsx), _, rfl, b, ys, rfl, .inl (s1.seq hsy), rfl, _, rfl, ?_⟩
    rw [l1, l2]
    have e : (decide (V.int (ds.length : Nat) = V.int (ds.length : Nat))) = true := decide_eq_true rfl
    rw [e]
    refine iteF ?_
    refine ⟨_, rfl, a, xs, rfl, .inl (s1.seq hsx), ?_⟩
    rw [l1]
    refine ⟨_, rfl, by omega, by omega, for_range (lo := 0) (n := ds.length) (fun i σ H' => ∃ o2, σ = [some (.ref a), some (.ref b), o2] ∧ Same H H') ⟨none, rfl, s1⟩ ?_ ?_⟩
    · rintro i σ H' hi ⟨o2, rfl, sm⟩
      obtain ⟨v1, v2, d, e1, e2, e3, g1, g2⟩ := dps_pair hax hay hi
      refine ⟨_, rfl, _, rfl, .inl ⟨a, xs, _, _, rfl, rfl, sm.seq hsx, (by rw [Int.zero_add]; exact atI_nat e1), _, rfl, _, rfl, .inl ⟨b, ys, _, _, rfl, rfl, sm.seq hsy, (by rw [Int.zero_add]; exact atI_nat e2), v1, v2, d, rfl, dp_same sm g1, dp_same sm g2, hp2 _ (List.mem_of_getElem? e3), fun H2 sm2 => ⟨_, rfl, ?_⟩⟩⟩⟩
      refine iteF ?_
      exact ⟨_, rfl, sm.trans sm2⟩
    · rintro σ H' ⟨o2, rfl, sm⟩
      exact q H' sm
  | @tup a xs ds hsx hax =>
    cases hy with
    | @tup b ys _ hsy hay =>
    obtain ⟨hp1, hp2⟩ := hp
    have l1 := dps_len hax
    have l2 := dps_len hay
    have hsl := sizeLine_eq
    refine ⟨_, rfl, rfl, _, rfl, ?_⟩
    refine iteF ?_
    refine ⟨_, rfl, rfl, _, rfl, ?_⟩
    refine iteF ?_
    refine isi_read rfl kx.1 (kit_bool kx.2) ⟨_, rfl, ?_⟩
    refine iteF ?_
    refine isi_read rfl ky.1 (kit_bool ky.2) ⟨_, rfl, ?_⟩
    refine iteF ?_
    refine isi_read rfl kx.1 (kit_int kx.2) ⟨_, rfl, ?_⟩
    refine iteF ?_
    refine isi_read rfl ky.1 (kit_int ky.2) ⟨_, rfl, ?_⟩
    refine iteF ?_
    refine isi_read rfl kx.1 (kit_str kx.2) ⟨_, rfl, ?_⟩
    refine iteF ?_
    refine isi_read rfl ky.1 (kit_str ky.2) ⟨_, rfl, ?_⟩
    refine iteF ?_
    refine isi_read rfl kx.1 (kit_tup kx.2) ?_
    refine isi_read rfl ky.1 (kit_tup ky.2) ⟨rfl, _, rfl, ?_⟩
    refine iteF ?_
    refine isi_read rfl kx.1 (kit_list kx.2) ?_
    refine isi_read rfl ky.1 (kit_list ky.2) ⟨rfl, _, rfl, ?_⟩
    refine iteF ?_
    refine ⟨_, rfl, (by show 2 ≤ sizeLine; decide), fun t ht => ?_⟩
    have s1 : Same H (upd H t (.tup [.ty "tuple", .ty "list"])) := same_new ht
    have kx1 := same_kind s1 kx
    refine ⟨_, t, _, _, _, _, rfl, upd_same, .cons (.ty _) (.cons (.ty _) .nil), kx1.1, kit_tl_tup, _, rfl, ?_⟩
    refine iteF ?_
    revert s1
    generalize upd H t (.tup [.ty "tuple", .ty "list"]) = H1
    intro s1
    refine ⟨_, rfl, a, xs, rfl, .inr (same_sqt s1 hsx), _, rfl, b, ys, rfl, .inr (same_sqt s1 hsy), rfl, _, rfl, ?_⟩
    rw [l1, l2]
    have e : (decide (V.int (ds.length : Nat) = V.int (ds.length : Nat))) = true := decide_eq_true rfl
    rw [e]
    refine iteF ?_
    refine ⟨_, rfl, a, xs, rfl, .inr (same_sqt s1 hsx), ?_⟩
    rw [l1]
    refine ⟨_, rfl, by omega, by omega, for_range (lo := 0) (n := ds.length) (fun i σ H' => ∃ o2, σ = [some (.ref a), some (.ref b), o2] ∧ Same H H') ⟨none, rfl, s1⟩ ?_ ?_⟩
    · rintro i σ H' hi ⟨o2, rfl, sm⟩
      obtain ⟨v1, v2, d, e1, e2, e3, g1, g2⟩ := dps_pair hax hay hi
      refine ⟨_, rfl, _, rfl, .inr (.inl ⟨a, xs, _, _, rfl, rfl, same_sqt sm hsx, (by rw [Int.zero_add]; exact atI_nat e1), _, rfl, _, rfl, .inr (.inl ⟨b, ys, _, _, rfl, rfl, same_sqt sm hsy, (by rw [Int.zero_add]; exact atI_nat e2), v1, v2, d, rfl, dp_same sm g1, dp_same sm g2, hp2 _ (List.mem_of_getElem? e3), fun H2 sm2 => ⟨_, rfl, ?_⟩⟩)⟩)⟩
      refine iteF ?_
      exact ⟨_, rfl, sm.trans sm2⟩
    · rintro σ H' ⟨o2, rfl, sm⟩
      exact q H' sm
theorem ok_same (D : DefAt K mg "_law_same" s_law_same ["one", "other"]) (T : Txt K mg) : ∀ n : Nat, CalX P w K mg base CX0 n "_law_same" ["one", "other"] (spSame K n)
  | 0 => by
    obtain ⟨f, fd, F, m, b⟩ := D.ex
    have no : ∀ vs H Q E, ¬ spSame K 0 vs H Q E := fun vs H Q E h => by
      obtain ⟨x, y, d, _, _, _, h, _⟩ := h
      exact h
    exact ⟨f, fd, ⟨fun vs H Q E h => absurd h (no vs H Q E), fun A outer s H args us vs Q E _ _ _ _ h => absurd h (no vs H Q E)⟩, m, F.kp, b, fun_lk F⟩
  | n + 1 => ok_same_step D T (ok_same D T n)
/-! ### _law_is -/
def spIs : Sp := fun vs H Q _ => ∃ a b : Bool, vs = [.bl a, .bl b] ∧ Q (.bl (decide (a = b))) H
theorem ok_is (D : DefAt K mg "_law_is" s_law_is ["told", "due"]) : CalX P w K mg base CX0 1 "_law_is" ["told", "due"] spIs := by
  refine D.ok sc_law_is (fun vs H Q E h => ?_) (fun f cdv A outer s H vs Q E hr h => ?_)
  · obtain ⟨a, b, rfl, _⟩ := h
    rfl
  obtain ⟨a, b, rfl, q⟩ := h
  refine ⟨_, (pss_cons (ps_if (pt_val (pv 1)) 
      (pss_one (ps_ret (pe_cmpR op_is_bl (pv 0) pe_bl (nomark _)))) pss_nil) 
    (pss_one (ps_ret (pe_cmpR op_is_bl (pv 0) pe_bl (nomark _))))), ?_⟩
  refine ⟨_, rfl, b, rfl, ?_⟩
  cases b with
  | true => exact iteT ⟨_, rfl, _, _, rfl, rfl, q⟩
  | false => exact iteF ⟨_, rfl, _, _, rfl, rfl, q⟩
/-! ### _law_greater -/
def spGreater (K : PySem.W.Frag) : Sp := fun vs H Q _ => ∃ (a b : Addr) (ns ms : List Int), vs = [.ref a, .ref b] ∧ SqT K H a (ns.map V.int) ∧ SqT K H b (ms.map V.int) ∧ ns.length ≤ 1000 ∧ ms.length ≤ 1000 ∧ Q (.bl (HT.lexLt ms ns)) H
theorem ok_greater (D : DefAt K mg "_law_greater" s_law_greater ["one", "other"]) (T : Txt K mg) : CalX P w K mg base CX0 1 "_law_greater" ["one", "other"] (spGreater K) := by
  refine D.ok sc_law_greater (fun vs H Q E h => ?_) (fun f cdv A outer s H vs Q E hr h => ?_)
  · obtain ⟨a, b, ns, ms, rfl, _⟩ := h
    rfl
  obtain ⟨a, b, ns, ms, rfl, ha, hb, hn, hm, q⟩ := h
  refine ⟨_, (pss_cons (ps_for PassesOwn.never rfl (pi_range1 (by rfl) T.range (pa_cons (pe_callB (call_min2 rfl) (by rfl) T.min (by decide +kernel) (pa_cons (pe_callB call_len_seq (by rfl) T.len PySem.boot_len (pa_cons (pv 0) pa_nil)) (pa_cons (pe_callB call_len_seq (by rfl) T.len PySem.boot_len (pa_cons (pv 1) pa_nil)) pa_nil))) pa_nil)) (pg_name (i := 2) sc_law_greater.nd rfl (Or.inl rfl)) 
      (pss_one (ps_if (pt_cmpR op_ne (pe_ix ix_tup (pv 0) (pv 2) (fun _ _ => rfl)) (pe_ix ix_tup (pv 1) (pv 2) (fun _ _ => rfl)) (nomark _)) 
        (pss_one (ps_ret (pe_cmpR op_gt (pe_ix ix_tup (pv 0) (pv 2) (fun _ _ => rfl)) (pe_ix ix_tup (pv 1) (pv 2) (fun _ _ => rfl)) (nomark _)))) pss_nil))) 
    (pss_one (ps_ret (pe_cmpR op_gt (pe_callB call_len_seq (by rfl) T.len PySem.boot_len (pa_cons (pv 0) pa_nil)) (pe_callB call_len_seq (by rfl) T.len PySem.boot_len (pa_cons (pv 1) pa_nil)) (nomark _))))), ?_⟩
  refine ⟨_, rfl, a, _, rfl, .inr ha, _, rfl, b, _, rfl, .inr hb, _, _, rfl, ?_⟩
  rw [List.length_map, List.length_map]
  have emin : (if ((ms.length : Nat) : Int) < (ns.length : Nat) then ((ms.length : Nat) : Int) else (ns.length : Nat)) = (min ns.length ms.length : Nat) := by
    split <;> omega
  rw [emin]
  refine ⟨_, rfl, by omega, by omega, for_range (lo := 0) (n := min ns.length ms.length) (fun i σ H' => ∃ o2, σ = [some (.ref a), some (.ref b), o2] ∧ H' = H ∧ HT.lexLt ms ns = HT.lexLt (ms.drop i) (ns.drop i)) ⟨none, rfl, rfl, by rw [List.drop_zero, List.drop_zero]⟩ ?_ ?_⟩
  · rintro i σ H' hi ⟨o2, rfl, rfl, hg⟩
    have i1 : i < ns.length := by omega
    have i2 : i < ms.length := by omega
    have e1 : (ns.map V.int)[i]? = some (.int ns[i]) := by rw [List.getElem?_map, List.getElem?_eq_getElem i1]; rfl
    have e2 : (ms.map V.int)[i]? = some (.int ms[i]) := by rw [List.getElem?_map, List.getElem?_eq_getElem i2]; rfl
    rw [List.drop_eq_getElem_cons i1, List.drop_eq_getElem_cons i2, HT.lexLt_cons] at hg
    generalize ns[i] = x at e1 hg
    generalize ms[i] = y at e2 hg
    refine ⟨_, rfl, _, rfl, a, _, _, _, rfl, rfl, ha, (by rw [Int.zero_add]; exact atI_nat e1), _, rfl, _, rfl, b, _, _, _, rfl, rfl, hb, (by rw [Int.zero_add]; exact atI_nat e2), rfl, _, rfl, ?_⟩
    by_cases c : x = y
    · rw [if_pos c.symm] at hg
      rw [decide_eq_true (show V.int x = V.int y by rw [c])]
      refine iteF ?_
      exact ⟨_, rfl, rfl, hg⟩
    · rw [if_neg (Ne.symm c)] at hg
      rw [decide_eq_false (show ¬ V.int x = V.int y from fun z => c (by injection z))]
      refine iteT ?_
      refine ⟨_, rfl, _, rfl, a, _, _, _, rfl, rfl, ha, (by rw [Int.zero_add]; exact atI_nat e1), _, rfl, _, rfl, b, _, _, _, rfl, rfl, hb, (by rw [Int.zero_add]; exact atI_nat e2), _, _, rfl, rfl, ?_⟩
      rw [hg] at q
      exact q
  · rintro σ H' ⟨o2, rfl, rfl, hg⟩
    refine ⟨_, rfl, a, _, rfl, .inr ha, _, rfl, b, _, rfl, .inr hb, _, _, rfl, rfl, ?_⟩
    rw [List.length_map, List.length_map]
    have e : HT.lexLt ms ns = decide (((ns.length : Nat) : Int) > (ms.length : Nat)) := by
      rw [hg]
      by_cases c : ms.length < ns.length
      · rw [decide_eq_true (by omega), List.drop_of_length_le (by omega)]
        obtain ⟨x, r, e⟩ : ∃ x r, ns.drop (min ns.length ms.length) = x :: r := by
          cases e : ns.drop (min ns.length ms.length) with
          | nil =>
            have := congrArg List.length e
            rw [List.length_drop] at this
            simp at this
            omega
          | cons x r => exact ⟨x, r, rfl⟩
        rw [e]
        exact HT.lexLt_nil_cons ..
      · rw [decide_eq_false (by omega), List.drop_of_length_le (l := ns) (by omega)]
        cases ms.drop (min ns.length ms.length) <;> rfl
    rw [e] at q
    exact q
end
end K23
set_option Elab.async false
set_option linter.all false
set_option maxRecDepth 100000
set_option maxHeartbeats 4000000
namespace K23
open PySem PySem.Spec PyProof.Rows L2 Dt
def idL {α : Type} (l : List α) : List α := l
def revL {α : Type} (l : List α) : List α := l.reverse
def rotL {α : Type} : List α → List α | a :: r => r ++ [a] | [] => []
theorem idL_rel {zs : List V} {ws : List Value} (h : Vals zs ws) : Vals (idL zs) (idL ws) := h
theorem revL_rel {zs : List V} {ws : List Value} (h : Vals zs ws) : Vals (revL zs) (revL ws) := by
  unfold revL
  induction h with
  | nil => exact .nil
  | cons r _ ih =>
    rw [List.reverse_cons, List.reverse_cons]
    exact ih.append (.cons r .nil)
theorem rotL_rel {zs : List V} {ws : List Value} (h : Vals zs ws) : Vals (rotL zs) (rotL ws) := by
  cases h with
  | nil => exact .nil
  | cons r t => exact (show Vals _ _ from t).append (.cons r .nil)
theorem seq_str {a b : Str} (h : a = b) : decide (V.str a = V.str b) = true := decide_eq_true (by rw [h])
theorem sne_str {a b : Str} (h : a ≠ b) : decide (V.str a = V.str b) = false := decide_eq_false fun z => h (by injection z)
theorem kit_self {K : PySem.W.Frag} {U : Addr} : PySem.W.kitOne K (.ref U) (.ref U) = some true := by
  unfold PySem.W.kitOne
  rw [if_pos (by simp)]
/-- the classes of errors -/
structure EK (K : PySem.W.Frag) (mg : Str → Option Value) (U B S PA : Addr) : Prop where
  gB : mg "BoughError" = some (.ref B)
  gS : mg "ShapeError" = some (.ref S)
  gP : mg "InvalidPaper" = some (.ref PA)
  ec : ExcC K U
  tB : PySem.W.exmOne K (.ref U) (.ref B) = some true
  kS : PySem.W.kitOne K (.ref U) (.ref S) = some true
  kP : PySem.W.kitOne K (.ref U) (.ref PA) = some false
/-! ### _law_ask -/
def Refd (K : PySem.W.Frag) (H : Hp) (Q : VK) (z : Str) : Prop := ∀ v H', Same H H' → DpF K H H' v (.tuple [.str "refused", .str z, .int (-1)]) → Q v H'
def AskPlace (K : PySem.W.Frag) (x y : V) (H : Hp) (Q : VK) : Prop := ∃ d r, Dp K H x d ∧ Dp K H y r ∧ (∀ ds, d = .tuple ds → ds.length ≤ 1000000) ∧
  (lineOf d = false → Refd K H Q "line") ∧ (lineOf d = true → rankOf r = false → Refd K H Q "rank") ∧
  (∀ ds p H', d = .tuple ds → lineOf d = true → rankOf r = true → PlaceIs (rksOf ds) (rkInts r) p → Same H H' → Q (.int (p : Nat)) H')
def AskEntry (K : PySem.W.Frag) (n : Nat) (x y z : V) (H : Hp) (Q : VK) : Prop := ∃ d r it, Dp K H x d ∧ Dp K H y r ∧ Dp K H z it ∧ (∀ ds, d = .tuple ds → ds.length ≤ 1000000) ∧
  (lineOf d = false → Refd K H Q "line") ∧ (lineOf d = true → rankOf r = false → Refd K H Q "rank") ∧
  (∀ ds p, d = .tuple ds → lineOf d = true → rankOf r = true → PlaceIs (rksOf ds) (rkInts r) p → plainN n (putD ds p r it) ∧ ∀ v H', Same H H' → DpF K H H' v (putD ds p r it) → Q v H')
def AskRanks (K : PySem.W.Frag) (v x y : V) (H : Hp) (Q : VK) : Prop := ∃ (t : Dt) (o : Option Int) (d : PyData), DtV K H v t ∧ t.size ≤ 100000 ∧ (t.good 1 = true → t.ht < 20 ∧ t.nodes ≤ 1000) ∧ NumV K H x o ∧ Dp K H y d ∧ (∀ ds, d = .tuple ds → ds.length ≤ 1000000) ∧
  (t.good 1 = false → Refd K H Q "form") ∧ (t.good 1 = true → belowB (t.lf : Nat) o = false → Refd K H Q "queue") ∧
  (t.good 1 = true → ∀ (i : Nat) p H', o = some (i : Nat) → (lv t)[i]? = some p → Same H H' → Q (.bl (fitOf (p.length + 1) d)) H')
def AskEvents (K : PySem.W.Frag) (v x : V) (H : Hp) (Q : VK) : Prop := ∃ (t : Dt) (d : PyData), DtV K H v t ∧ t.size ≤ 100000 ∧ (t.good 1 = true → t.ht < 20 ∧ t.nodes ≤ 1000) ∧ Dp K H x d ∧ (∀ ds, d = .tuple ds → ds.length ≤ 1000 ∧ ∀ e ∈ ds, EvOk e) ∧
  (t.good 1 = false → Refd K H Q "form") ∧ (t.good 1 = true → ∀ H', Same H H' → Q (.bl (evsOf t d)) H')
def spAsk (K : PySem.W.Frag) (n : Nat) : Sp := fun vs H Q _ => ∃ (z0 : Str) (x y t : V), vs = [.str z0, x, y, t] ∧
  (((z0 = "place" ∨ z0 = "named place") ∧ AskPlace K x y H Q) ∨ ((z0 = "entry" ∨ z0 = "named entry") ∧ AskEntry K n x y t H Q) ∨ ((z0 = "ranks" ∨ z0 = "named ranks") ∧ AskRanks K x y t H Q) ∨ ((z0 = "events" ∨ z0 = "named events") ∧ AskEvents K x y H Q))
/-- the except suite -/
def tSuite (U a : Addr) (cls : Value) (d : Option Addr) : TS := fun D σ H => ∃ (z : Str) (dd : Addr), cls = .ref U ∧ d = some dd ∧ σ[4]? = some (some (.ref a)) ∧ H dd = some (xdO z (-1)) ∧ ∀ r, H r = none → D.rt (.ref r) (upd H r (.tup [.str "refused", .str z, .int (-1)]))
theorem ask_err {K : PySem.W.Frag} {mg : Str → Option Value} {U B S PA : Addr} {H H1 : Hp} {Q : VK} {z : Str} {D : Ends} {σ : L2.St} (EE : EK K mg U B S PA) (hD : D.rt = Q) (hσ : σ.length = 5) (s1 : Same H H1) (q : Refd K H Q z) :
    Out U z H1 (WE (wAs1 K (.ref B) 4 (tSuite U) D) σ) := by
  intro d hd
  refine ⟨EE.tB, fun a0 ha0 => ⟨z, d, rfl, rfl, ?_, upd_same, fun r hr2 => ?_⟩⟩
  · rw [List.getElem?_set_self (by omega)]
  · show D.rt (.ref r) _
    rw [hD]
    have sd : Same H1 (upd H1 d (xdO z (-1))) := same_new hd
    refine q (.ref r) _ (s1.trans (sd.trans (same_new hr2))) fun H3 hk => ?_
    exact .tup (SqT.of (hk r _ (s1.free (sd.free hr2)) upd_same)) (.cons (.str _) (.cons (.str _) (.cons (.int _) .nil)))
section
variable {P : Program} {w : World} {K : PySem.W.Frag} {mg : Str → Option Value} {base : Heap} {C U fI fG B S PA : Addr}
theorem ok_ask (D : DefAt K mg "_law_ask" s_law_ask ["word", "one", "two", "three"]) (T : Txt K mg) (N : NUT K mg U fI) (EE : EK K mg U B S PA)
    (GPl : CalX P w K mg base (L2.CX P w) 4 "put_place" ["line", "rank"] (spPutPlace K U)) (KPl : KwAt K mg "put_place" ["line", "rank"] ["rank", "line"] revL)
    (GEn : CalX P w K mg base (L2.CX P w) 7 "put_entry" ["line", "rank", "item"] (spPutEntry K U 6)) (KEn : KwAt K mg "put_entry" ["line", "rank", "item"] ["item", "line", "rank"] rotL)
    (GAr : CalX P w K mg base (L2.CX P w) 24 "are_ranks" ["form", "queue", "thing"] (spAreRanks K C U)) (KAr : KwAt K mg "are_ranks" ["form", "queue", "thing"] ["thing", "queue", "form"] revL)
    (GFi : CalX P w K mg base (L2.CX P w) 24 "events_fit" ["form", "thing"] (spFits K U)) (KFi : KwAt K mg "events_fit" ["form", "thing"] ["thing", "form"] revL) :
    CalX P w K mg base CX0 25 "_law_ask" ["word", "one", "two", "three"] (spAsk K 6) := by
  refine D.ok sc_law_ask (fun vs H Q E h => ?_) (fun f cdv A outer s H vs Q E hr h => ?_)
  · obtain ⟨z0, x, y, t, rfl, _⟩ := h
    rfl
  obtain ⟨z0, x, y, t, rfl, h⟩ := h
  refine ⟨_, pss_cons (ps_try_as2 (i := 4) rfl rfl sc_law_ask.nd rfl rfl ⟨rfl, by decide, Or.inl EE.gB⟩
    (fun W pn xe tk _ => (pss_cons (ps_if (pt_cmpR op_eq (pv 0) pe_str (nomark _)) (pss_one (ps_ret (by exact (pe_cxS GPl hr (by decide) rfl (fun σ => passAt tk σ) (by exact (pa_cons (pv 1) (pa_cons (pv 2) pa_nil))))))) pss_nil)
      (pss_cons (ps_if (pt_cmpR op_eq (pv 0) pe_str (nomark _)) (pss_one (ps_ret (by exact (pe_kw GPl KPl hr (by decide) rfl (fun σ => passAt tk σ) (by exact (pk_cons (pv 2) (pk_cons (pv 1) pk_nil))))))) pss_nil)
      (pss_cons (ps_if (pt_cmpR op_eq (pv 0) pe_str (nomark _)) (pss_one (ps_ret (by exact (pe_cxS GEn hr (by decide) rfl (fun σ => passAt tk σ) (by exact (pa_cons (pv 1) (pa_cons (pv 2) (pa_cons (pv 3) pa_nil)))))))) pss_nil)
      (pss_cons (ps_if (pt_cmpR op_eq (pv 0) pe_str (nomark _)) (pss_one (ps_ret (by exact (pe_kw GEn KEn hr (by decide) rfl (fun σ => passAt tk σ) (by exact (pk_cons (pv 3) (pk_cons (pv 1) (pk_cons (pv 2) pk_nil)))))))) pss_nil)
      (pss_cons (ps_if (pt_cmpR op_eq (pv 0) pe_str (nomark _)) (pss_one (ps_ret (by exact (pe_cxS GAr hr (by decide) rfl (fun σ => passAt tk σ) (by exact (pa_cons (pv 1) (pa_cons (pv 2) (pa_cons (pv 3) pa_nil)))))))) pss_nil)
      (pss_cons (ps_if (pt_cmpR op_eq (pv 0) pe_str (nomark _)) (pss_one (ps_ret (by exact (pe_kw GAr KAr hr (by decide) rfl (fun σ => passAt tk σ) (by exact (pk_cons (pv 3) (pk_cons (pv 2) (pk_cons (pv 1) pk_nil)))))))) pss_nil)
      (pss_cons (ps_if (pt_cmpR op_eq (pv 0) pe_str (nomark _)) (pss_one (ps_ret (by exact (pe_kw GFi KFi hr (by decide) rfl (fun σ => passAt tk σ) (by exact (pk_cons (pv 2) (pk_cons (pv 1) pk_nil))))))) pss_nil)
      (pss_one (ps_ret (by exact (pe_cxS GFi hr (by decide) rfl (fun σ => passAt tk σ) (by exact (pa_cons (pv 1) (pa_cons (pv 2) pa_nil)))))))))))))))
    (fun a oe cls d pn hz hf => (pss_one (ps_conv (t' := tSuite U a cls d) (ps_if (PW.pt (pw_and (pt_val (pe_callB (call_isX hz hf) (by rfl) T.isinstance boot_isinstance (pa_cons (pv 4) (pa_cons (pe_glob (v := .ref U) (by rfl) N.gU rfl) pa_nil)))) (pw_and (pt_val (pe_callB (call_isX hz hf) (by rfl) T.isinstance boot_isinstance (pa_cons (pv 4) (pa_cons (pe_glob (v := .ref S) (by rfl) EE.gS rfl) pa_nil)))) (pw_and1 (pt_not (pt_val (pe_callB (call_isX hz hf) (by rfl) T.isinstance boot_isinstance (pa_cons (pv 4) (pa_cons (pe_glob (v := .ref PA) (by rfl) EE.gP rfl) pa_nil))))))))) (pss_one (ps_ret (pe_tup (pa_cons pe_str (pa_cons (pe_xf N.xf N.nw hz hf (pv 4)) (pa_cons (pe_xf N.xf N.na hz hf (pv 4)) pa_nil)))))) pss_nil) (by
      rintro D σ H ⟨z, dd, rfl, rfl, hs, hd, q⟩
      refine ⟨_, hs, U, dd, _, _, _, _, rfl, rfl, EE.ec, rfl, (fun u h => h), kit_self, hd, ⟨_, rfl, ?_⟩⟩
      refine iteT ?_
      refine ⟨_, hs, U, dd, _, _, _, _, rfl, rfl, EE.ec, rfl, (fun u h => h), EE.kS, hd, ⟨_, rfl, ?_⟩⟩
      refine iteT ?_
      refine ⟨_, hs, U, dd, _, _, _, _, rfl, rfl, EE.ec, rfl, (fun u h => h), EE.kP, hd, ⟨_, rfl, ?_⟩⟩
      refine iteT ?_
      exact ⟨_, hs, rfl, rfl, dd, _, _, rfl, hd, rfl, _, hs, rfl, rfl, dd, _, _, rfl, hd, rfl, (by show 3 ≤ sizeLine; decide), q⟩)))))
    (pss_one (ps_ret (pe_tup (pa_cons pe_str pa_nil)))), ?_⟩

  rcases h with ⟨hw, d, r, hx, hy, hn, q1, q2, q3⟩ | ⟨hw, d, r, it, hx, hy, hz, hn, q1, q2, q3⟩ | ⟨hw, u, o, d, hv, hz, hg, hx, hy, hn, q1, q2, q3⟩ | ⟨hw, u, d, hv, hz, hg, hx, hn, q1, q2⟩
  · rcases hw with hw | hw
    · subst hw
      refine ⟨_, rfl, rfl, _, rfl, ?_⟩
      rw [seq_str rfl]
      refine iteT ?_
      exact ⟨_, rfl, _, rfl, x, y, d, r, rfl, hx, hy, hn, (fun e H1 s1 => ask_err EE rfl rfl s1 (q1 e)), (fun e1 e2 H1 s1 => ask_err EE rfl rfl s1 (q2 e1 e2)), q3⟩
    · subst hw
      refine ⟨_, rfl, rfl, _, rfl, ?_⟩
      rw [sne_str (by decide +kernel)]
      refine iteF ?_
      refine ⟨_, rfl, rfl, _, rfl, ?_⟩
      rw [seq_str rfl]
      refine iteT ?_
      exact ⟨_, rfl, _, rfl, rfl, x, y, d, r, rfl, hx, hy, hn, (fun e H1 s1 => ask_err EE rfl rfl s1 (q1 e)), (fun e1 e2 H1 s1 => ask_err EE rfl rfl s1 (q2 e1 e2)), q3⟩

  · rcases hw with hw | hw
    · subst hw
      refine ⟨_, rfl, rfl, _, rfl, ?_⟩
      rw [sne_str (by decide +kernel)]
      refine iteF ?_
      refine ⟨_, rfl, rfl, _, rfl, ?_⟩
      rw [sne_str (by decide +kernel)]
      refine iteF ?_
      refine ⟨_, rfl, rfl, _, rfl, ?_⟩
      rw [seq_str rfl]
      refine iteT ?_
      exact ⟨_, rfl, _, rfl, _, rfl, x, y, t, d, r, it, rfl, hx, hy, hz, hn, (fun e H1 s1 => ask_err EE rfl rfl s1 (q1 e)), (fun e1 e2 H1 s1 => ask_err EE rfl rfl s1 (q2 e1 e2)), q3⟩
    · subst hw
      refine ⟨_, rfl, rfl, _, rfl, ?_⟩
      rw [sne_str (by decide +kernel)]
      refine iteF ?_
      refine ⟨_, rfl, rfl, _, rfl, ?_⟩
      rw [sne_str (by decide +kernel)]
      refine iteF ?_
      refine ⟨_, rfl, rfl, _, rfl, ?_⟩
      rw [sne_str (by decide +kernel)]
      refine iteF ?_
      refine ⟨_, rfl, rfl, _, rfl, ?_⟩
      rw [seq_str rfl]
      refine iteT ?_
      exact ⟨_, rfl, _, rfl, _, rfl, rfl, x, y, t, d, r, it, rfl, hx, hy, hz, hn, (fun e H1 s1 => ask_err EE rfl rfl s1 (q1 e)), (fun e1 e2 H1 s1 => ask_err EE rfl rfl s1 (q2 e1 e2)), q3⟩

  · rcases hw with hw | hw
    · subst hw
      refine ⟨_, rfl, rfl, _, rfl, ?_⟩
      rw [sne_str (by decide +kernel)]
      refine iteF ?_
      refine ⟨_, rfl, rfl, _, rfl, ?_⟩
      rw [sne_str (by decide +kernel)]
      refine iteF ?_
      refine ⟨_, rfl, rfl, _, rfl, ?_⟩
      rw [sne_str (by decide +kernel)]
      refine iteF ?_
      refine ⟨_, rfl, rfl, _, rfl, ?_⟩
      rw [sne_str (by decide +kernel)]
      refine iteF ?_
      refine ⟨_, rfl, rfl, _, rfl, ?_⟩
      rw [seq_str rfl]
      refine iteT ?_
      exact ⟨_, rfl, _, rfl, _, rfl, x, y, t, u, o, d, rfl, hv, hz, hg, hx, hy, hn, (fun e H1 s1 => ask_err EE rfl rfl s1 (q1 e)), (fun e1 e2 H1 s1 => ask_err EE rfl rfl s1 (q2 e1 e2)), q3⟩
    · subst hw
      refine ⟨_, rfl, rfl, _, rfl, ?_⟩
      rw [sne_str (by decide +kernel)]
      refine iteF ?_
      refine ⟨_, rfl, rfl, _, rfl, ?_⟩
      rw [sne_str (by decide +kernel)]
      refine iteF ?_
      refine ⟨_, rfl, rfl, _, rfl, ?_⟩
      rw [sne_str (by decide +kernel)]
      refine iteF ?_
      refine ⟨_, rfl, rfl, _, rfl, ?_⟩
      rw [sne_str (by decide +kernel)]
      refine iteF ?_
      refine ⟨_, rfl, rfl, _, rfl, ?_⟩
      rw [sne_str (by decide +kernel)]
      refine iteF ?_
      refine ⟨_, rfl, rfl, _, rfl, ?_⟩
      rw [seq_str rfl]
      refine iteT ?_
      exact ⟨_, rfl, _, rfl, _, rfl, rfl, x, y, t, u, o, d, rfl, hv, hz, hg, hx, hy, hn, (fun e H1 s1 => ask_err EE rfl rfl s1 (q1 e)), (fun e1 e2 H1 s1 => ask_err EE rfl rfl s1 (q2 e1 e2)), q3⟩

  · rcases hw with hw | hw
    · subst hw
      refine ⟨_, rfl, rfl, _, rfl, ?_⟩
      rw [sne_str (by decide +kernel)]
      refine iteF ?_
      refine ⟨_, rfl, rfl, _, rfl, ?_⟩
      rw [sne_str (by decide +kernel)]
      refine iteF ?_
      refine ⟨_, rfl, rfl, _, rfl, ?_⟩
      rw [sne_str (by decide +kernel)]
      refine iteF ?_
      refine ⟨_, rfl, rfl, _, rfl, ?_⟩
      rw [sne_str (by decide +kernel)]
      refine iteF ?_
      refine ⟨_, rfl, rfl, _, rfl, ?_⟩
      rw [sne_str (by decide +kernel)]
      refine iteF ?_
      refine ⟨_, rfl, rfl, _, rfl, ?_⟩
      rw [sne_str (by decide +kernel)]
      refine iteF ?_
      refine ⟨_, rfl, rfl, _, rfl, ?_⟩
      rw [sne_str (by decide +kernel)]
      refine iteF ?_
      exact ⟨_, rfl, _, rfl, x, y, u, d, rfl, hv, hz, hg, hx, hn, (fun e H1 s1 => ask_err EE rfl rfl s1 (q1 e)), q2⟩
    · subst hw
      refine ⟨_, rfl, rfl, _, rfl, ?_⟩
      rw [sne_str (by decide +kernel)]
      refine iteF ?_
      refine ⟨_, rfl, rfl, _, rfl, ?_⟩
      rw [sne_str (by decide +kernel)]
      refine iteF ?_
      refine ⟨_, rfl, rfl, _, rfl, ?_⟩
      rw [sne_str (by decide +kernel)]
      refine iteF ?_
      refine ⟨_, rfl, rfl, _, rfl, ?_⟩
      rw [sne_str (by decide +kernel)]
      refine iteF ?_
      refine ⟨_, rfl, rfl, _, rfl, ?_⟩
      rw [sne_str (by decide +kernel)]
      refine iteF ?_
      refine ⟨_, rfl, rfl, _, rfl, ?_⟩
      rw [sne_str (by decide +kernel)]
      refine iteF ?_
      refine ⟨_, rfl, rfl, _, rfl, ?_⟩
      rw [seq_str rfl]
      refine iteT ?_
      exact ⟨_, rfl, _, rfl, rfl, x, y, u, d, rfl, hv, hz, hg, hx, hn, (fun e H1 s1 => ask_err EE rfl rfl s1 (q1 e)), q2⟩

end
end K23
set_option Elab.async false
set_option linter.all false
set_option maxRecDepth 100000
set_option maxHeartbeats 4000000
namespace K23
open PySem PySem.Spec PyProof.Rows L2 Dt
/-! ### written data -/
def DpFs (K : PySem.W.Frag) (H H' : Hp) (vs : List V) (ds : List PyData) : Prop := ∀ H2, (∀ b u, H b = none → H' b = some u → H2 b = some u) → DpAll K H2 vs ds
def DV (K : PySem.W.Frag) (t : TE) (σ : L2.St) (d : PyData) : Prop := ∀ (H : Hp) (Q : VK), (∀ v H', Same H H' → DpF K H H' v d → Q v H') → t σ H Q
def DVs (K : PySem.W.Frag) (t : TA) (σ : L2.St) (ds : List PyData) : Prop := ∀ (H : Hp) (Q : List V → Hp → Prop), (∀ vs H', Same H H' → DpFs K H H' vs ds → Q vs H') → t σ H Q
section
variable {K : PySem.W.Frag} {σ : L2.St}
theorem same_refl {H : Hp} : Same H H := fun _ _ h => h
theorem dvs_nil : DVs K tNil σ [] := fun H Q q => q [] H same_refl fun _ _ => .nil
theorem dvs_cons {te : TE} {ta : TA} {d : PyData} {ds : List PyData} (h : DV K te σ d) (hs : DVs K ta σ ds) : DVs K (tCons te ta) σ (d :: ds) := fun H Q q =>
  h H _ fun v H1 s1 f1 => hs H1 _ fun vs H2 s2 f2 => q (v :: vs) H2 (s1.trans s2) fun H3 hk =>
    .cons (f1 H3 fun b u a1 a2 => hk b u a1 (s2 _ _ a2)) (f2 H3 fun b u a1 a2 => hk b u (s1.free a1) a2)
theorem dv_int {i : Int} : DV K (tC (.int i)) σ (.int i) := fun H Q q => q _ H same_refl fun _ _ => .int i
theorem dv_bl {b : Bool} : DV K (tC (.bl b)) σ (.bool b) := fun H Q q => q _ H same_refl fun _ _ => .bl b
theorem dv_non : DV K (tC .non) σ .none := fun H Q q => q _ H same_refl fun _ _ => .non
theorem dv_str {z : Str} : DV K (tC (.str z)) σ (.str z) := fun H Q q => q _ H same_refl fun _ _ => .str z
theorem dv_vint {k : Nat} {i : Int} (h : σ[k]? = some (some (.int i))) : DV K (tVar k) σ (.int i) := fun H Q q => ⟨_, h, q _ H same_refl fun _ _ => .int i⟩
theorem dv_neg {te : TE} {i j : Int} (h : ∀ H Q, Q (.int i) H → te σ H Q) (e : -i = j) : DV K (tUn (rU fun i => .int (-i)) te) σ (.int j) := fun H Q q => h H _ ⟨i, rfl, by
  show Q (.int (-i)) H
  rw [e]
  exact q _ H same_refl fun _ _ => .int j⟩
theorem dv_sub {te tf : TE} {i k j : Int} (h : ∀ H Q, Q (.int i) H → te σ H Q) (h' : ∀ H Q, Q (.int k) H → tf σ H Q) (e : i - k = j) : DV K (tOp (rI0 fun i j => .int (i - j)) te tf) σ (.int j) := fun H Q q => h H _ (h' H _ ⟨i, k, rfl, rfl, by
  show Q (.int (i - k)) H
  rw [e]
  exact q _ H same_refl fun _ _ => .int j⟩)
theorem dv_tup {ta : TA} {ds : List PyData} (h : DVs K ta σ ds) (hl : ds.length ≤ 1000) : DV K (tTup ta) σ (.tuple ds) := fun H Q q => h H _ fun vs H1 s1 f1 => by
  have hl1 := dps_len (f1 H1 fun _ _ _ e => e)
  have hsl := sizeLine_eq
  refine ⟨by omega, fun p hp => q _ _ (s1.trans (same_new hp)) fun H2 hk => .tup (SqT.of (hk p _ (s1.free hp) upd_same)) (f1 H2 fun b u a1 a2 => hk b u a1 ((same_new hp : Same H1 _) _ _ a2))⟩
theorem dv_lst {ta : TA} {ds : List PyData} (h : DVs K ta σ ds) (hl : ds.length ≤ 1000) : DV K (tLst ta) σ (.list ds) := fun H Q q => h H _ fun vs H1 s1 f1 => by
  have hl1 := dps_len (f1 H1 fun _ _ _ e => e)
  have hsl := sizeLine_eq
  refine ⟨by omega, fun p hp => q _ _ (s1.trans (same_new hp)) fun H2 hk => .lst (SqL.of (hk p _ (s1.free hp) upd_same)) (f1 H2 fun b u a1 a2 => hk b u a1 ((same_new hp : Same H1 _) _ _ a2))⟩
end
/-- a written menu -/
def tMenu (K : PySem.W.Frag) (C : L2.St → Prop) (ds : List PyData) : TE := fun σ H Q => C σ ∧ ∀ p vs H', Same H H' → H p = none → H' p = some (.tup vs) → DpFs K H H' vs ds → Q (.ref p) H'
theorem dv_menu {K : PySem.W.Frag} {ta : TA} {σ : L2.St} {ds : List PyData} {H : Hp} {Q : VK} (h : DVs K ta σ ds) (hl : ds.length ≤ 1000) (q : ∀ p vs H', Same H H' → H p = none → H' p = some (.tup vs) → DpFs K H H' vs ds → Q (.ref p) H') : tTup ta σ H Q := h H _ fun vs H1 s1 f1 => by
  have hl1 := dps_len (f1 H1 fun _ _ _ e => e)
  have hsl := sizeLine_eq
  exact ⟨by omega, fun p hp => q p vs _ (s1.trans (same_new hp)) (s1.free hp) upd_same fun H2 hk => f1 H2 fun b u a1 a2 => hk b u a1 ((same_new hp : Same H1 _) _ _ a2)⟩
/-! ### an item of a menu -/
theorem DpF.rn {K : PySem.W.Frag} {H H1 H2 : Hp} {tp ca : Addr} {v : V} {d : PyData} (f : DpF K H H1 v d) (t : Tape K H tp ca) (r : Rn K tp ca H1 H2) : DpF K H H2 v d := fun H3 hk => f H3 fun b u h1 h2 => hk b u h1 (r.at h2 (t.new h1))
theorem DpF.same {K : PySem.W.Frag} {H H1 H2 : Hp} {v : V} {d : PyData} (f : DpF K H H1 v d) (s : Same H1 H2) : DpF K H H2 v d := fun H3 hk => f H3 fun b u h1 h2 => hk b u h1 (s _ _ h2)
def rLenQ (K : PySem.W.Frag) : List V → Hp → VK → Prop := fun xs H Q => ∃ p ys, xs = [.ref p] ∧ (SqL K H p ys ∨ SqT K H p ys) ∧ Q (.int ys.length) H
theorem menu_read {K : PySem.W.Frag} {σ : L2.St} {H0 H : Hp} {tp ca p : Addr} {i0 im : Nat} {vs : List V} {ds : List PyData} {Q : VK} {r : List V → Hp → VK → Prop} (hr : r = rLenQ K) (h0 : σ[i0]? = some (some (.ref tp))) (hm : σ[im]? = some (some (.ref p))) (hp : H p = some (.tup vs)) (hd : DpFs K H0 H vs ds) (hT0 : Tape K H0 tp ca) (hT : Tape K H tp ca) (hpn : H0 p = none) (hl : 0 < ds.length) (hl2 : ds.length ≤ 1000)
    (q : ∀ H' v d, Rn K tp ca H H' → d ∈ ds → DpF K H0 H' v d → Q v H') : tOp (rIxT K) (tVar im) (tCall (spDraw K) [] E0 (tCons (tVar i0) (tCons (tCB r (tCons (tVar im) tNil)) tNil))) σ H Q := by
  subst hr
  have hlen := dps_len (hd H fun _ _ _ e => e)
  refine ⟨_, hm, _, h0, _, hm, p, vs, rfl, .inr (SqT.of hp), tp, ca, vs.length, rfl, hT, by omega, by omega, fun H1 r hr R1 => ?_⟩
  have hx : vs[r]? = some vs[r] := List.getElem?_eq_getElem hr
  have hdr : ds[r]? = some (ds[r]'(by omega)) := List.getElem?_eq_getElem (by omega)
  refine ⟨p, vs, _, _, rfl, rfl, SqT.of (R1.at hp (hT0.new hpn)), atI_nat hx, q H1 _ _ R1 (List.mem_of_getElem? hdr) fun H3 hk => ?_⟩
  obtain ⟨d, hd1, hd2⟩ := dps_at (hd H3 fun b u h1 h2 => hk b u h1 (R1.at h2 (hT0.new h1))) hx
  rw [hdr] at hd1
  rw [Option.some.inj hd1]
  exact hd2
/-! ### powers of two -/
theorem shl_of {k n : Int} (hk : 0 ≤ k ∧ k ≤ 1000000) (e : (1 : Int) * 2 ^ k.toNat = n) : ∀ (σ : L2.St) (H : Hp) (Q : VK), tC (.int n) σ H Q → tOp (rI CPow fun i j => .int (i * 2 ^ j.toNat)) (tC (.int 1)) (tC (.int k)) σ H Q := by
  rintro σ H Q q
  refine ⟨1, k, rfl, rfl, ⟨hk.1, hk.2, by decide⟩, ?_⟩
  show Q (.int ((1 : Int) * 2 ^ k.toNat)) H
  rw [e]
  exact q
def big89 : Int := 10 ^ 89
theorem pow_89 : ∀ (σ : L2.St) (H : Hp) (Q : VK), tC (.int big89) σ H Q → tOp (rI CMulW fun i j => .int (i * j)) (tOp (rI CPow fun i j => .int (i ^ j.toNat)) (tC (.int 10)) (tC (.int 45))) (tOp (rI CPow fun i j => .int (i ^ j.toNat)) (tC (.int 10)) (tC (.int 44))) σ H Q := by
  rintro σ H Q q
  refine ⟨10, 45, rfl, rfl, ⟨by decide, by decide, by decide⟩, 10, 44, rfl, rfl, ⟨by decide, by decide, by decide⟩, _, _, rfl, rfl, wide_mul (a := 151) (b := 151) (by decide +kernel) (by decide +kernel) (by decide) (by decide) (by decide), ?_⟩
  have e : (10 : Int) ^ (45 : Int).toNat * (10 : Int) ^ (44 : Int).toNat = big89 := by decide +kernel
  show Q (.int ((10 : Int) ^ (45 : Int).toNat * (10 : Int) ^ (44 : Int).toNat)) H
  rw [e]
  exact q
def edgeI : Int := 1606938044258990275541962092341162602522202993782792835301375
/-! ### plain data, by a test -/
def plainB : Nat → PyData → Bool
  | 0, _ => false
  | _ + 1, .none => true
  | _ + 1, .bool _ => true
  | _ + 1, .int _ => true
  | _ + 1, .str _ => true
  | n + 1, .tuple ds => decide (ds.length ≤ 1000) && ds.all (plainB n)
  | n + 1, .list ds => decide (ds.length ≤ 1000) && ds.all (plainB n)
  | _, _ => false
theorem plainB_ok : ∀ (n : Nat) (d : PyData), plainB n d = true → plainN n d
  | 0, d, h => by cases d <;> exact nomatch h
  | n + 1, d, h => by
    cases d with
    | none => trivial
    | bool _ => trivial
    | int _ => trivial
    | str _ => trivial
    | tuple ds =>
      have h' : (decide (ds.length ≤ 1000) && ds.all (plainB n)) = true := h
      rw [Bool.and_eq_true, List.all_eq_true] at h'
      exact ⟨of_decide_eq_true h'.1, fun d hd => plainB_ok n d (h'.2 d hd)⟩
    | list ds =>
      have h' : (decide (ds.length ≤ 1000) && ds.all (plainB n)) = true := h
      rw [Bool.and_eq_true, List.all_eq_true] at h'
      exact ⟨of_decide_eq_true h'.1, fun d hd => plainB_ok n d (h'.2 d hd)⟩
    | dict _ => exact nomatch h
theorem plainN_mono : ∀ (n m : Nat) (d : PyData), n ≤ m → plainN n d → plainN m d
  | 0, _, d, _, h => by cases d <;> exact False.elim h
  | n + 1, 0, d, h, _ => by omega
  | n + 1, m + 1, d, hm, h => by
    cases d with
    | none => trivial
    | bool _ => trivial
    | int _ => trivial
    | str _ => trivial
    | tuple ds => exact ⟨h.1, fun d hd => plainN_mono n m d (by omega) (h.2 d hd)⟩
    | list ds => exact ⟨h.1, fun d hd => plainN_mono n m d (by omega) (h.2 d hd)⟩
    | dict _ => exact False.elim h
/-! ### _law_rank -/
def RankI (ns : List Int) : Prop := ns.length ≤ 8 ∧ ∀ i ∈ ns, -rankB < i ∧ i < rankB
def intsD (l : List Int) : PyData := .tuple (l.map PyData.int)
def spMkRank (K : PySem.W.Frag) : Sp := fun vs H Q _ => ∃ (tp ca : Addr) (m : Nat), vs = [.ref tp, .int (m : Nat)] ∧ Tape K H tp ca ∧ ∀ H' a ns, Rn K tp ca H H' → RankI ns → H a = none → H' a = some (.tup (ns.map V.int)) → Q (.ref a) H'
theorem sqt_off {K : PySem.W.Frag} {H : Hp} {tp ca p : Addr} {xs : List V} (t : Tape K H tp ca) (h : H p = some (.tup xs)) : SqT K (del H tp) p xs := by
  refine SqT.of ?_
  have ne : p ≠ tp := fun z => by
    obtain ⟨cs, i, b, s, _, h2, _⟩ := t
    rw [z, h2] at h
    injection h with h
    cases h
  rw [del_ne ne]
  exact h
section
variable {P : Program} {w : World} {K : PySem.W.Frag} {mg : Str → Option Value} {base : Heap} {C U fI fG B S PA : Addr}
theorem ok_mkrank (D : DefAt K mg "_law_rank" s_law_rank ["tape", "manner"]) (T : Txt K mg) (GDraw : CalX P w K mg base CX0 1 "_law_draw" ["tape", "many"] (spDraw K)) : CalX P w K mg base CX0 2 "_law_rank" ["tape", "manner"] (spMkRank K) := by
  refine D.ok sc_law_rank (fun vs H Q E h => ?_) (fun f cdv A outer s H vs Q E hr h => ?_)
  · obtain ⟨tp, ca, m, rfl, _⟩ := h
    rfl
  obtain ⟨tp, ca, m, rfl, hT, q⟩ := h
  refine ⟨_, (pss_cons (ps_if (pt_cmpR op_eq (pv 1) pe_int (nomark _)) 
      (pss_one (ps_ret (pe_tup (pa_cons (pe_c0 GDraw hr (by decide) rfl (pa_cons (pv 0) (pa_cons pe_int pa_nil))) pa_nil)))) pss_nil) 
    (pss_cons (ps_if (pt_cmpR op_eq (pv 1) pe_int (nomark _)) 
      (pss_one (ps_ret (pe_callTy call_tuple_of (by rfl) T.tuple PyProof.Rows.boot_tuple (pa_cons (pe_lc (own := [("k", 2)]) (g := gName 2) (tt := tYes) (by rfl) sc_law_rank.nd (pi_range1 (by rfl) T.range (pa_cons (pe_c0 GDraw hr (by decide) rfl (pa_cons (pv 0) (pa_cons pe_int pa_nil))) pa_nil)) (blkOk_by (own := [("k", 2)]) (N := N_law_rank) (sc := defScope s_law_rank) (by decide +kernel)) (fun _ _ _ _ _ => pg_name (i := 2) sc_law_rank.nd rfl (Or.inl rfl)) (fun _ _ _ _ _ => pts_nil) (fun _ _ _ _ _ => by exact (pe_c0 GDraw hr (by decide) rfl (pa_cons (pv 0) (pa_cons pe_int pa_nil))))) pa_nil)))) pss_nil) 
    (pss_cons (ps_if (pt_cmpR op_eq (pv 1) pe_int (nomark _)) 
      (pss_one (ps_ret (pe_tup (pa_cons (pe_op op_sub (pe_c0 GDraw hr (by decide) rfl (pa_cons (pv 0) (pa_cons pe_int pa_nil))) pe_int) pa_nil)))) pss_nil) 
    (pss_cons (ps_set (i := 3) sc_law_rank.nd rfl (.inl rfl) (pe_op op_sub (pe_conv (t' := tC (.int rankB)) (pe_op op_shl pe_int pe_int) (shl_of (by decide) (by decide +kernel))) pe_int)) 
    (pss_cons (ps_set (i := 4) sc_law_rank.nd rfl (.inr rfl) (pe_tup (pa_cons pe_int (pa_cons pe_int (pa_cons (pe_un un_neg pe_int) (pa_cons (pv 3) (pa_cons (pe_un un_neg (pv 3)) (pa_cons (pe_op op_sub (pv 3) pe_int) (pa_cons (pe_conv (t' := tC (.int (2 ^ 100))) (pe_op op_shl pe_int pe_int) (shl_of (by decide) (by decide +kernel))) pa_nil))))))))) 
    (pss_one (ps_ret (pe_callTy call_tuple_of (by rfl) T.tuple PyProof.Rows.boot_tuple (pa_cons (pe_lc (own := [("k", 2)]) (g := gName 2) (tt := tYes) (by rfl) sc_law_rank.nd (pi_range1 (by rfl) T.range (pa_cons (pe_c0 GDraw hr (by decide) rfl (pa_cons (pv 0) (pa_cons pe_int pa_nil))) pa_nil)) (blkOk_by (own := [("k", 2)]) (N := N_law_rank) (sc := defScope s_law_rank) (by decide +kernel)) (fun _ _ _ _ _ => pg_name (i := 2) sc_law_rank.nd rfl (Or.inl rfl)) (fun _ _ _ _ _ => pts_nil) (fun _ _ _ _ _ => by exact (pe_ix (show IxR _ (rIxT K) from ix_tup) (pv 4) (pe_c0 GDraw hr (by decide) rfl (pa_cons (pv 0) (pa_cons pe_int pa_nil))) (fun _ _ => rfl)))) pa_nil))))))))), ?_⟩
  have b0 : -rankB < 0 ∧ 0 < rankB := by decide
  have row : ∀ (n : Nat) (g : Nat → Int), (∀ r, -rankB < g r ∧ g r < rankB) → True := fun _ _ _ => trivial
  refine ⟨_, rfl, rfl, _, rfl, ?_⟩
  refine ite2 (fun _ => ?_) (fun _ => ?_)
  · refine ⟨_, rfl, tp, ca, 3, rfl, hT, by decide, by decide, fun H1 r hr1 R1 => ⟨(by show 1 ≤ sizeLine; decide), fun p hp => ?_⟩⟩
    have R2 := R1.same (same_new hp : Same H1 (upd H1 p (.tup [.int (r : Nat)])))
    refine q _ p [(r : Nat)] R2 ⟨by show 1 ≤ 8; decide, fun i hi => ?_⟩ (R1.free hp) upd_same
    obtain rfl : i = (r : Nat) := by simpa using hi
    unfold rankB
    omega
  refine ⟨_, rfl, rfl, _, rfl, ?_⟩
  refine ite2 (fun _ => ?_) (fun _ => ?_)
  · refine ⟨_, rfl, tp, ca, 4, rfl, hT, by decide, by decide, fun H1 n hn R1 => ?_⟩
    refine ⟨_, rfl, by omega, by omega, fun Dl hDl => lc_range (lo := 0) (n := n) (fun k H' => Rn K tp ca H H' ∧ ∃ ns : List Int, H' Dl = some (.lst (ns.map V.int)) ∧ ns.length = k ∧ ∀ i ∈ ns, -rankB < i ∧ i < rankB) ⟨R1.mut (R1.free hDl), [], upd_same, rfl, fun i h => nomatch h⟩ ?_ ?_⟩
    · rintro k H' hk ⟨R2, ns, hD, hl, hb⟩
      refine ⟨rfl, _, rfl, tp, ca, 2, rfl, R2.b, by decide, by decide, fun H3 r hr3 R3 => ?_⟩
      refine ⟨_, R3.at hD (R1.b.new hDl), small1000 (by rw [List.length_map]; omega), (R2.trans R3).mut (R1.free hDl), ns ++ [((r : Nat) : Int)], by rw [upd_same, List.map_append]; rfl, by rw [List.length_append]; show ns.length + 1 = k + 1; omega, fun i hi => ?_⟩
      rcases List.mem_append.mp hi with hi | hi
      · exact hb i hi
      · obtain rfl : i = (r : Nat) := by simpa using hi
        unfold rankB
        omega
    · rintro H' ⟨R2, ns, hD, hl, hb⟩
      refine ⟨Dl, _, rfl, .inl ⟨SqL.of hD, fun l hl2 => ?_⟩⟩
      have R3 := R2.same (same_new hl2 : Same H' (upd H' l (.tup (ns.map V.int))))
      exact q _ l ns R3 ⟨by omega, hb⟩ (R2.free hl2) upd_same
  refine ⟨_, rfl, rfl, _, rfl, ?_⟩
  refine ite2 (fun _ => ?_) (fun _ => ?_)
  · refine ⟨_, rfl, tp, ca, 2000003, rfl, hT, by decide, by decide, fun H1 r hr1 R1 => ⟨_, _, rfl, rfl, (by show 1 ≤ sizeLine; decide), fun p hp => ?_⟩⟩
    have R2 := R1.same (same_new hp : Same H1 (upd H1 p (.tup [.int ((r : Nat) - 1000001)])))
    refine q _ p [(r : Nat) - 1000001] R2 ⟨by show 1 ≤ 8; decide, fun i hi => ?_⟩ (R1.free hp) upd_same
    obtain rfl : i = (r : Nat) - 1000001 := by simpa using hi
    unfold rankB
    omega
  refine ⟨_, _, rfl, rfl, ?_⟩
  have e0 : rankB - 1 = edgeI := by decide +kernel
  show _
  refine ⟨_, rfl, _, rfl, _, rfl, _, rfl, _, rfl, _, _, rfl, rfl, (by show 7 ≤ sizeLine; decide), fun pm hpm => ?_⟩
  have hmenu : ∀ v ∈ [V.int 0, .int 1, .int (-1), .int (rankB - 1), .int (-(rankB - 1)), .int (rankB - 1 - 1), .int (2 ^ 100)], ∃ i : Int, v = .int i ∧ -rankB < i ∧ i < rankB := by
    intro v hv
    simp only [List.mem_cons, List.not_mem_nil, or_false] at hv
    have h100 : -rankB < (2 ^ 100 : Int) ∧ (2 ^ 100 : Int) < rankB := by decide +kernel
    rcases hv with rfl | rfl | rfl | rfl | rfl | rfl | rfl
    · exact ⟨_, rfl, by decide, by decide⟩
    · exact ⟨_, rfl, by decide, by decide⟩
    · exact ⟨_, rfl, by decide, by decide⟩
    · exact ⟨_, rfl, by omega, by omega⟩
    · exact ⟨_, rfl, by omega, by omega⟩
    · exact ⟨_, rfl, by omega, by omega⟩
    · exact ⟨_, rfl, h100⟩
  have hM : (upd H pm (.tup [V.int 0, .int 1, .int (-1), .int (rankB - 1), .int (-(rankB - 1)), .int (rankB - 1 - 1), .int (2 ^ 100)])) pm = some (.tup [V.int 0, .int 1, .int (-1), .int (rankB - 1), .int (-(rankB - 1)), .int (rankB - 1 - 1), .int (2 ^ 100)]) := upd_same
  have R0 := Rn.of hT (same_new hpm : Same H (upd H pm (.tup [V.int 0, .int 1, .int (-1), .int (rankB - 1), .int (-(rankB - 1)), .int (rankB - 1 - 1), .int (2 ^ 100)])))
  have hml : ([V.int 0, .int 1, .int (-1), .int (rankB - 1), .int (-(rankB - 1)), .int (rankB - 1 - 1), .int (2 ^ 100)] : List V).length = 7 := rfl
  revert hmenu hM R0 hml
  show _ → _ → _ → _ → _
  generalize ([V.int 0, .int 1, .int (-1), .int (rankB - 1), .int (-(rankB - 1)), .int (rankB - 1 - 1), .int (2 ^ 100)] : List V) = mv
  generalize upd H pm (.tup mv) = H0
  intro hmenu hM R0 hml
  refine ⟨_, rfl, tp, ca, 9, rfl, R0.b, by decide, by decide, fun H1 n hn R1 => ?_⟩
  have R1' := R0.trans R1
  refine ⟨_, rfl, by omega, by omega, fun Dl hDl => lc_range (lo := 0) (n := n) (fun k H' => Rn K tp ca H1 H' ∧ ∃ ns : List Int, H' Dl = some (.lst (ns.map V.int)) ∧ ns.length = k ∧ ∀ i ∈ ns, -rankB < i ∧ i < rankB) ⟨(Rn.refl R1.b).mut hDl, [], upd_same, rfl, fun i h => nomatch h⟩ ?_ ?_⟩
  · rintro k H' hk ⟨R2, ns, hD, hl, hb⟩
    refine ⟨rfl, _, rfl, _, rfl, tp, ca, 7, rfl, R2.b, by decide, by decide, fun H3 r hr3 R3 => ?_⟩
    have hM3 := (R1.trans (R2.trans R3)).at hM (hT.new hpm)
    have hx : mv[r]? = some (mv[r]'(by omega)) := List.getElem?_eq_getElem (by omega)
    obtain ⟨i, hi, hib⟩ := hmenu _ (List.mem_of_getElem? hx)
    rw [hi] at hx
    refine ⟨pm, mv, _, _, rfl, rfl, SqT.of hM3, atI_nat hx, ?_⟩
    refine ⟨_, R3.at hD (R1.b.new hDl), small1000 (by rw [List.length_map]; omega), (R2.trans R3).mut hDl, ns ++ [i], by rw [upd_same, List.map_append]; rfl, by rw [List.length_append]; show ns.length + 1 = k + 1; omega, fun j hj => ?_⟩
    rcases List.mem_append.mp hj with hj | hj
    · exact hb j hj
    · obtain rfl : j = i := by simpa using hj
      exact hib
  · rintro H' ⟨R2, ns, hD, hl, hb⟩
    refine ⟨Dl, _, rfl, .inl ⟨SqL.of hD, fun l hl2 => ?_⟩⟩
    have R3 := (R1'.trans R2).same (same_new hl2 : Same H' (upd H' l (.tup (ns.map V.int))))
    exact q _ l ns R3 ⟨by omega, hb⟩ ((R1'.trans R2).free hl2) upd_same
/-! ### _law_item -/
def itemsD : List PyData := [.int 1, .bool true, .int 0, .bool false, .none, .str "1", .str "", .tuple [.int 1], .tuple [.bool true], .list [.int 1, .list [.bool true]], .tuple [], .list [], .int big89, .int (-1)]
theorem items_plain : ∀ d ∈ itemsD, plainN 3 d := fun d hd => plainB_ok 3 d (List.all_eq_true.mp (show itemsD.all (plainB 3) = true from by decide +kernel) d hd)
def spItem (K : PySem.W.Frag) : Sp := fun vs H Q _ => ∃ (tp ca : Addr) (m : Nat) (n : Int), vs = [.ref tp, .int (m : Nat), .int n] ∧ Tape K H tp ca ∧ ∀ H' v d, Rn K tp ca H H' → plainN 3 d → DpF K H H' v d → Q v H'
theorem ok_item (D : DefAt K mg "_law_item" s_law_item ["tape", "manner", "number"]) (T : Txt K mg) (GDraw : CalX P w K mg base CX0 1 "_law_draw" ["tape", "many"] (spDraw K)) : CalX P w K mg base CX0 2 "_law_item" ["tape", "manner", "number"] (spItem K) := by
  refine D.ok sc_law_item (fun vs H Q E h => ?_) (fun f cdv A outer s H vs Q E hr h => ?_)
  · obtain ⟨tp, ca, m, n, rfl, _⟩ := h
    rfl
  obtain ⟨tp, ca, m, n, rfl, hT, q⟩ := h
  refine ⟨_, (pss_cons (ps_set (i := 3) sc_law_item.nd rfl (.inl rfl) (pe_conv (t' := tMenu K (fun _ => True) itemsD) (pe_tup (pa_cons pe_int (pa_cons pe_bl (pa_cons pe_int (pa_cons pe_bl (pa_cons pe_non (pa_cons pe_str (pa_cons pe_str (pa_cons (pe_tup (pa_cons pe_int pa_nil)) (pa_cons (pe_tup (pa_cons pe_bl pa_nil)) (pa_cons (pe_lst (pa_cons pe_int (pa_cons (pe_lst (pa_cons pe_bl pa_nil)) pa_nil))) (pa_cons (pe_tup pa_nil) (pa_cons (pe_lst pa_nil) (pa_cons (pe_conv (t' := tC (.int big89)) (pe_op op_mulW (pe_op op_pow pe_int pe_int) (pe_op op_pow pe_int pe_int)) pow_89) (pa_cons (pe_un un_neg pe_int) pa_nil))))))))))))))) (fun σ H Q h => dv_menu (by unfold itemsD; repeat (first | exact dvs_nil | refine dvs_cons ?_ ?_ | exact dv_int | exact dv_bl | exact dv_non | exact dv_str | (refine dv_tup ?_ (by simp)) | (refine dv_lst ?_ (by simp)) | exact dv_vint (by assumption) | (refine dv_neg (fun _ _ q => q) ?_ <;> rfl) | (refine dv_neg (fun _ _ q => ⟨_, by assumption, q⟩) ?_ <;> rfl))) (by decide) h.2))) 
    (pss_cons (ps_if (pt_cmpR op_eq (pv 1) pe_int (nomark _)) 
      (pss_one (ps_ret (pv 2))) pss_nil) 
    (pss_one (ps_ret (pe_ix ix_tup (pv 3) (pe_c0 GDraw hr (by decide) rfl (pa_cons (pv 0) (pa_cons (pe_callB call_len_seq (by rfl) T.len PySem.boot_len (pa_cons (pv 3) pa_nil)) pa_nil))) (fun _ _ => rfl)))))), ?_⟩
  refine ⟨trivial, fun p vs H1 s1 hpn hp f1 => ?_⟩
  have R1 := Rn.of hT s1
  refine ⟨_, rfl, rfl, _, rfl, ?_⟩
  refine ite2 (fun _ => ?_) (fun _ => ?_)
  · exact ⟨_, rfl, q H1 _ (.int n) R1 trivial fun _ _ => .int n⟩
  · exact menu_read rfl rfl rfl hp f1 hT R1.b hpn (by decide) (by decide) fun H2 v d R2 hd hv => q H2 v d (R1.trans R2) (items_plain d hd) hv
/-! ### _law_bad_rank -/
def badRanks : List PyData := [.list [.int 0], .none, .int 7, .tuple [.bool true], .tuple [.int 0, .int 0, .int 0, .int 0, .int 0, .int 0, .int 0, .int 0, .int 0], .tuple [.int rankB], .tuple [.int 0, .int (-rankB)], .tuple [.str "0"], .tuple [.tuple [.int 0]], .tuple [.int 1, .none], .str "", .tuple [.int 0, .list [.int 1]], .tuple [.int 0, .bool false]]
def BadR (d : PyData) : Prop := plainN 3 d ∧ rankOf d = false ∧ (∀ ds, d = .tuple ds → ds.length ≤ 1000) ∧ d.canLay0 = true ∧ d.depth ≤ 5
theorem bad_ranks : ∀ d ∈ badRanks, BadR d := fun d hd => by
  have h1 := List.all_eq_true.mp (show badRanks.all (plainB 3) = true from by decide +kernel) d hd
  have h2 := List.all_eq_true.mp (show badRanks.all (fun d => !rankOf d) = true from by decide +kernel) d hd
  have h3 := List.all_eq_true.mp (show badRanks.all PyData.canLay0 = true from by decide +kernel) d hd
  have h4 := List.all_eq_true.mp (show badRanks.all (fun d => decide (d.depth ≤ 5)) = true from by decide +kernel) d hd
  refine ⟨plainB_ok 3 d h1, by simpa using h2, fun ds e => ?_, h3, of_decide_eq_true h4⟩
  have := plainB_ok 3 d h1
  rw [e] at this
  exact this.1
def spBadRank (K : PySem.W.Frag) : Sp := fun vs H Q _ => ∃ (tp ca : Addr), vs = [.ref tp] ∧ Tape K H tp ca ∧ ∀ H' v d, Rn K tp ca H H' → BadR d → DpF K H H' v d → Q v H'
theorem ok_badrank (D : DefAt K mg "_law_bad_rank" s_law_bad_rank ["tape"]) (T : Txt K mg) (GDraw : CalX P w K mg base CX0 1 "_law_draw" ["tape", "many"] (spDraw K)) : CalX P w K mg base CX0 2 "_law_bad_rank" ["tape"] (spBadRank K) := by
  refine D.ok sc_law_bad_rank (fun vs H Q E h => ?_) (fun f cdv A outer s H vs Q E hr h => ?_)
  · obtain ⟨tp, ca, rfl, _⟩ := h
    rfl
  obtain ⟨tp, ca, rfl, hT, q⟩ := h
  refine ⟨_, (pss_cons (ps_set (i := 1) sc_law_bad_rank.nd rfl (.inl rfl) (pe_conv (t' := tC (.int rankB)) (pe_op op_shl pe_int pe_int) (shl_of (by decide) (by decide +kernel)))) 
    (pss_cons (ps_set (i := 2) sc_law_bad_rank.nd rfl (.inl rfl) (pe_conv (t' := tMenu K (fun σ => σ[1]? = some (some (.int rankB))) badRanks) (pe_tup (pa_cons (pe_lst (pa_cons pe_int pa_nil)) (pa_cons pe_non (pa_cons pe_int (pa_cons (pe_tup (pa_cons pe_bl pa_nil)) (pa_cons (pe_tup (pa_cons pe_int (pa_cons pe_int (pa_cons pe_int (pa_cons pe_int (pa_cons pe_int (pa_cons pe_int (pa_cons pe_int (pa_cons pe_int (pa_cons pe_int pa_nil)))))))))) (pa_cons (pe_tup (pa_cons (pv 1) pa_nil)) (pa_cons (pe_tup (pa_cons pe_int (pa_cons (pe_un un_neg (pv 1)) pa_nil))) (pa_cons (pe_tup (pa_cons pe_str pa_nil)) (pa_cons (pe_tup (pa_cons (pe_tup (pa_cons pe_int pa_nil)) pa_nil)) (pa_cons (pe_tup (pa_cons pe_int (pa_cons pe_non pa_nil))) (pa_cons pe_str (pa_cons (pe_tup (pa_cons pe_int (pa_cons (pe_lst (pa_cons pe_int pa_nil)) pa_nil))) (pa_cons (pe_tup (pa_cons pe_int (pa_cons pe_bl pa_nil))) pa_nil)))))))))))))) (fun σ H Q h => dv_menu (by have hs := h.1; unfold badRanks; repeat (first | exact dvs_nil | refine dvs_cons ?_ ?_ | exact dv_int | exact dv_bl | exact dv_non | exact dv_str | (refine dv_tup ?_ (by simp)) | (refine dv_lst ?_ (by simp)) | exact dv_vint (by assumption) | (refine dv_neg (fun _ _ q => q) ?_ <;> rfl) | (refine dv_neg (fun _ _ q => ⟨_, by assumption, q⟩) ?_ <;> rfl))) (by decide) h.2))) 
    (pss_one (ps_ret (pe_ix ix_tup (pv 2) (pe_c0 GDraw hr (by decide) rfl (pa_cons (pv 0) (pa_cons (pe_callB call_len_seq (by rfl) T.len PySem.boot_len (pa_cons (pv 2) pa_nil)) pa_nil))) (fun _ _ => rfl)))))), ?_⟩
  refine ⟨rfl, fun p vs H1 s1 hpn hp f1 => ?_⟩
  have R1 := Rn.of hT s1
  exact menu_read rfl rfl rfl hp f1 hT R1.b hpn (by decide) (by decide) fun H2 v d R2 hd hv => q H2 v d (R1.trans R2) (bad_ranks d hd) hv
/-! ### _law_bad_form -/
mutual
def dtOf : PyData → Dt
  | .tuple ds => dtRow ds
  | _ => .x
def dtRow : List PyData → Dt
  | [] => .o
  | d :: ds => .c (dtOf d) (dtRow ds)
end
end
theorem dtf_of {K : PySem.W.Frag} {H : Hp} : ∀ {vs : List V} {ds : List PyData}, DpAll K H vs ds → DtF K H vs (dtRow ds)
  | _, _, .nil => by
    unfold dtRow
    exact .nil
  | _, _, @DpAll.cons _ _ v vs d ds h q => by
    have hq := dtf_of q
    unfold dtRow
    have hk := kind_dp h
    cases h with
    | tup hs ha =>
      have h2 := dtf_of ha
      show DtF K H _ (.c (dtOf (.tuple _)) _)
      unfold dtOf
      exact .tup hs h2 hq
    | non => exact .bad hk (by simp [kindOf]) hq
    | bl b => exact .bad hk (by simp [kindOf]) hq
    | int i => exact .bad hk (by simp [kindOf]) hq
    | str z => exact .bad hk (by simp [kindOf]) hq
    | lst _ _ => exact .bad hk (by simp [kindOf]) hq
theorem dtv_of {K : PySem.W.Frag} {H : Hp} {v : V} {d : PyData} (h : Dp K H v d) : DtV K H v (dtOf d) := by
  have hk := kind_dp h
  cases h with
  | tup hs ha =>
    unfold dtOf
    exact .inr ⟨_, _, rfl, hs, dtf_of ha⟩
  | non => exact .inl ⟨by unfold dtOf; rfl, _, hk, by simp [kindOf]⟩
  | bl b => exact .inl ⟨by unfold dtOf; rfl, _, hk, by simp [kindOf]⟩
  | int i => exact .inl ⟨by unfold dtOf; rfl, _, hk, by simp [kindOf]⟩
  | str z => exact .inl ⟨by unfold dtOf; rfl, _, hk, by simp [kindOf]⟩
  | lst _ _ => exact .inl ⟨by unfold dtOf; rfl, _, hk, by simp [kindOf]⟩
def badForms : List PyData := [.list [], .none, .int 4, .tuple [.tuple [], .list []], .tuple [.tuple [], .tuple [], .tuple [], .tuple [], .tuple [], .tuple [], .tuple []], .str "o", .tuple [.tuple [.tuple [], .bool true]], .tuple [.tuple [], .int 0]]
def BadF (d : PyData) : Prop := (dtOf d).good 1 = false ∧ (dtOf d).size ≤ 100000
theorem bad_forms : ∀ d ∈ badForms, BadF d := by
  intro d hd
  simp only [badForms, List.mem_cons, List.not_mem_nil, or_false] at hd
  rcases hd with rfl | rfl | rfl | rfl | rfl | rfl | rfl | rfl <;> simp [BadF, dtOf, dtRow, Dt.good, Dt.here, Dt.isx, Dt.len, Dt.deep, Dt.size]
section
variable {P : Program} {w : World} {K : PySem.W.Frag} {mg : Str → Option Value} {base : Heap} {C U fI fG B S PA : Addr}
def spBadForm (K : PySem.W.Frag) : Sp := fun vs H Q _ => ∃ (tp ca : Addr), vs = [.ref tp] ∧ Tape K H tp ca ∧ ∀ H' v d, Rn K tp ca H H' → BadF d → DpF K H H' v d → Q v H'
theorem ok_badform (D : DefAt K mg "_law_bad_form" s_law_bad_form ["tape"]) (T : Txt K mg) (GDraw : CalX P w K mg base CX0 1 "_law_draw" ["tape", "many"] (spDraw K)) : CalX P w K mg base CX0 2 "_law_bad_form" ["tape"] (spBadForm K) := by
  refine D.ok sc_law_bad_form (fun vs H Q E h => ?_) (fun f cdv A outer s H vs Q E hr h => ?_)
  · obtain ⟨tp, ca, rfl, _⟩ := h
    rfl
  obtain ⟨tp, ca, rfl, hT, q⟩ := h
  refine ⟨_, (pss_cons (ps_set (i := 1) sc_law_bad_form.nd rfl (.inl rfl) (pe_conv (t' := tMenu K (fun _ => True) badForms) (pe_tup (pa_cons (pe_lst pa_nil) (pa_cons pe_non (pa_cons pe_int (pa_cons (pe_tup (pa_cons (pe_tup pa_nil) (pa_cons (pe_lst pa_nil) pa_nil))) (pa_cons (pe_tup (pa_cons (pe_tup pa_nil) (pa_cons (pe_tup pa_nil) (pa_cons (pe_tup pa_nil) (pa_cons (pe_tup pa_nil) (pa_cons (pe_tup pa_nil) (pa_cons (pe_tup pa_nil) (pa_cons (pe_tup pa_nil) pa_nil)))))))) (pa_cons pe_str (pa_cons (pe_tup (pa_cons (pe_tup (pa_cons (pe_tup pa_nil) (pa_cons pe_bl pa_nil))) pa_nil)) (pa_cons (pe_tup (pa_cons (pe_tup pa_nil) (pa_cons pe_int pa_nil))) pa_nil))))))))) (fun σ H Q h => dv_menu (by unfold badForms; repeat (first | exact dvs_nil | refine dvs_cons ?_ ?_ | exact dv_int | exact dv_bl | exact dv_non | exact dv_str | (refine dv_tup ?_ (by simp)) | (refine dv_lst ?_ (by simp)) | exact dv_vint (by assumption) | (refine dv_neg (fun _ _ q => q) ?_ <;> rfl) | (refine dv_neg (fun _ _ q => ⟨_, by assumption, q⟩) ?_ <;> rfl))) (by decide) h.2))) 
    (pss_one (ps_ret (pe_ix ix_tup (pv 1) (pe_c0 GDraw hr (by decide) rfl (pa_cons (pv 0) (pa_cons (pe_callB call_len_seq (by rfl) T.len PySem.boot_len (pa_cons (pv 1) pa_nil)) pa_nil))) (fun _ _ => rfl))))), ?_⟩
  refine ⟨trivial, fun p vs H1 s1 hpn hp f1 => ?_⟩
  have R1 := Rn.of hT s1
  exact menu_read rfl rfl rfl hp f1 hT R1.b hpn (by decide) (by decide) fun H2 v d R2 hd hv => q H2 v d (R1.trans R2) (bad_forms d hd) hv
end
end K23
set_option Elab.async false
set_option linter.all false
set_option maxRecDepth 100000
set_option maxHeartbeats 4000000
namespace K23S
open PySem PySem.Spec PyProof.Rows PySem.W
/-! ### the order of pairs (rank, number) -/
theorem lex_tot : ∀ xs ys : List Int, HT.lexLt xs ys = false → HT.lexLt ys xs = false → xs = ys
  | [], [], _, _ => rfl
  | [], y :: ys, h, _ => nomatch h
  | x :: xs, [], _, h => nomatch h
  | x :: xs, y :: ys, h1, h2 => by
    rw [HT.lexLt_cons] at h1 h2
    by_cases e : x = y
    · subst e
      rw [if_pos rfl] at h1 h2
      rw [lex_tot xs ys h1 h2]
    · rw [if_neg e] at h1
      rw [if_neg (Ne.symm e)] at h2
      have a := of_decide_eq_false h1
      have b := of_decide_eq_false h2
      omega
theorem lex_irr (xs : List Int) : HT.lexLt xs xs = false := by
  cases h : HT.lexLt xs xs with
  | false => rfl
  | true => exact absurd (h.symm.trans (NtL.lex_asym xs xs h)) (by decide)
theorem lex_trans {a b c : List Int} (h1 : HT.lexLt a b = true) (h2 : HT.lexLt b c = true) : HT.lexLt a c = true := by
  cases h : HT.lexLt a c with
  | true => rfl
  | false =>
    have := NtL.lex_tr c a b h (NtL.lex_asym _ _ h1)
    rw [h2] at this
    exact nomatch this
def ltK (p q : List Int × Int) : Bool := if p.1 = q.1 then decide (p.2 < q.2) else HT.lexLt p.1 q.1
theorem ltK_no {p q : List Int × Int} : ltK p q = false ↔ HT.lexLt q.1 p.1 = true ∨ (p.1 = q.1 ∧ q.2 ≤ p.2) := by
  unfold ltK
  by_cases e : p.1 = q.1
  · rw [if_pos e, decide_eq_false_iff_not]
    constructor
    · intro h
      exact .inr ⟨e, by omega⟩
    · rintro (h | h)
      · rw [e, lex_irr] at h
        exact nomatch h
      · omega
  · rw [if_neg e]
    constructor
    · intro h
      left
      cases h2 : HT.lexLt q.1 p.1 with
      | true => rfl
      | false => exact absurd (lex_tot _ _ h h2) e
    · rintro (h | h)
      · exact NtL.lex_asym _ _ h
      · exact absurd h.1 e
theorem ltK_yes {p q : List Int × Int} : ltK p q = true ↔ HT.lexLt p.1 q.1 = true ∨ (p.1 = q.1 ∧ p.2 < q.2) := by
  unfold ltK
  by_cases e : p.1 = q.1
  · rw [if_pos e, decide_eq_true_eq]
    constructor
    · exact fun h => .inr ⟨e, h⟩
    · rintro (h | h)
      · rw [e, lex_irr] at h
        exact nomatch h
      · exact h.2
  · rw [if_neg e]
    constructor
    · exact fun h => .inl h
    · rintro (h | h)
      · exact h
      · exact absurd h.1 e
theorem ltK_swo {α : Type} (k : α → List Int × Int) : SrtO.Swo fun v u => ltK (k v) (k u) := by
  refine ⟨fun x y h => ?_, fun x y z h1 h2 => ?_⟩
  · rw [ltK_no]
    rcases ltK_yes.mp h with h | h
    · exact .inl h
    · exact .inr ⟨h.1.symm, by omega⟩
  · rw [ltK_no] at h1 h2 ⊢
    rcases h1 with h1 | ⟨e1, h1⟩
    · rcases h2 with h2 | ⟨e2, h2⟩
      · exact .inl (lex_trans h1 h2)
      · rw [e2]
        exact .inl h1
    · rcases h2 with h2 | ⟨e2, h2⟩
      · rw [← e1]
        exact .inl h2
      · exact .inr ⟨e2.trans e1, by omega⟩
/-- a pair: a tuple of whole numbers, a number -/
def IsPI (h : Heap) (v : Value) (p : List Int × Int) : Prop := ∃ (a ka : Addr) (t : Tok) (items : Array Value), v = .ref a ∧ IsTup h a #[.ref ka, .int p.2 t] ∧ IsTup h ka items ∧ IntsAre items.toList p.1
theorem IsPI.keeps {h h' : Heap} {v : Value} {p : List Int × Int} (x : IsPI h v p) (k : ∀ b o, h.get? b = some o → o.cls = .type "tuple" → h'.get? b = some o) : IsPI h' v p := by
  obtain ⟨a, q, t, its, e, ⟨o, ho, hc, r⟩, ⟨o2, ho2, hc2, r2⟩, i⟩ := x
  exact ⟨a, q, t, its, e, ⟨o, k _ _ ho hc, hc, r⟩, ⟨o2, k _ _ ho2 hc2, hc2, r2⟩, i⟩
section
variable {prog : Program} {w : World} {A : Around} {E : Value → Shared → Prop} {s : Shared}
theorem key_of : ∀ {l : List Value} {ns : List Int}, IntsAre l ns → ItemsAre (L2.mixKind prog w) (ns.map fun i => (Sum.inl i : L2.Key)) l
  | _, _, .nil => .nil
  | _, _, .cons n t h => .cons (L2.mixKind_int prog w n t) (key_of h)
theorem inl_inj : ∀ {ns ms : List Int}, ns.map (fun i => (Sum.inl i : L2.Key)) = ms.map (fun i => (Sum.inl i : L2.Key)) → ns = ms
  | [], [], _ => rfl
  | [], _ :: _, h => nomatch h
  | _ :: _, [], h => nomatch h
  | n :: ns, m :: ms, h => by
    injection h with h1 h2
    injection h1 with h1
    rw [h1, inl_inj h2]
theorem firsts_pi {h : Heap} : ∀ vs : List Value, (∀ v ∈ vs, ∃ p, IsPI h v p) → ∃ fs : List Value, KatTups h vs fs ∧ fs.length = vs.length ∧ ∀ f ∈ fs, ∃ (q : Addr) (o : Obj), f = Value.ref q ∧ h.get? q = some o ∧ o.cls = .type "tuple"
  | [], _ => ⟨[], KatTups.nil, rfl, fun f hf => by simp at hf⟩
  | v :: vs, x => by
    obtain ⟨fs, k, hl, hi⟩ := firsts_pi vs fun u hu => x u (List.mem_cons_of_mem _ hu)
    obtain ⟨p, a, q, t, its, rfl, ⟨o, ho, hc, n, hd⟩, ⟨o2, ho2, hc2, _⟩, _⟩ := x v (List.mem_cons_self ..)
    refine ⟨.ref q :: fs, KatTups.cons ho hc hd rfl k, by rw [List.length_cons, List.length_cons, hl], fun f hf => ?_⟩
    rcases List.mem_cons.mp hf with rfl | hf
    · exact ⟨q, o2, rfl, ho2, hc2⟩
    · exact hi f hf
theorem cmp_pi {vs : List Value} {k : Value → List Int × Int} (hu : A.units < cLine) (hv : ∀ v ∈ vs, IsPI s.heap v (k v)) : SrtO.Cmp prog w A s (tuples' false) (fun p => p.1 ∈ vs) (SrtO.lt2 fun v u => ltK (k v) (k u)) := by
  intro p q hm hm'
  have h1 := hv _ hm
  have h2 := hv _ hm'
  show wpAny (model prog w) A (keyLt' (tuples' false) p.1 q.1) (fun r s' => s' = s ∧ r = ltK (k p.1) (k q.1)) (fun _ _ => False) s
  generalize k p.1 = kp at h1 ⊢
  generalize k q.1 = kq at h2 ⊢
  obtain ⟨x, y⟩ := kp
  obtain ⟨x', y'⟩ := kq
  obtain ⟨a, ka, t, its, e1, ⟨o, ho, hc, n, hd⟩, t2, i1⟩ := h1
  obtain ⟨a', kb, t', its', e2, ⟨o', ho', hc', n', hd'⟩, t2', i2⟩ := h2
  rw [e1, e2]
  refine kat_lt ho hd ho' hd' ?_
  show KatLex prog w A false (decide (2 < 2)) _ [(.ref ka, .ref kb), (.int y t, .int y' t')] 0 s
  have k1 : IsTupleKey (L2.mixKind prog w) s.heap (x.map fun i => (Sum.inl i : L2.Key)) ka := by
    obtain ⟨ok, hok, ck, nk, dk⟩ := t2
    exact ⟨ok, _, nk, hok, ck, dk, key_of i1⟩
  have k2 : IsTupleKey (L2.mixKind prog w) s.heap (x'.map fun i => (Sum.inl i : L2.Key)) kb := by
    obtain ⟨ok, hok, ck, nk, dk⟩ := t2'
    exact ⟨ok, _, nk, hok, ck, dk, key_of i2⟩
  refine kat_cons (wpAny_eqBool_tuple hu k1 k2 ?_)
  refine kat_go (fun e0 => ?_) (fun e0 => ?_)
  · have ex : x = x' := inl_inj (of_decide_eq_true e0)
    refine kat_yes (kat_cons (SeqAt.EqAt.int_int y t y' t' prog w _ _ ?_))
    refine kat_go (fun e3 => ?_) (fun e3 => ?_)
    · have ey : y = y' := by simpa using e3
      refine kat_yes (kat_nil ⟨rfl, ?_⟩)
      show _ = ltK (x, y) (x', y')
      unfold ltK
      rw [if_pos ex, ey]
      exact (decide_eq_false (Int.lt_irrefl _)).symm
    · refine kat_no (kat_one _ _ (PyProof.Rows.lt_int ?_))
      refine (show s = s ∧ decide (y < y') = ltK (x, y) (x', y') from ⟨rfl, ?_⟩)
      unfold ltK
      rw [if_pos ex]
  · have ex : ¬ x = x' := fun z => of_decide_eq_false e0 (by rw [z])
    refine kat_no ?_
    show wpAny _ _ (oneLt' false _ _) _ _ _
    refine kat_one _ _ (HT.lt_tupInts t2 t2' i1 i2 hu ?_)
    refine (show s = s ∧ HT.lexLt x x' = ltK (x, y) (x', y') from ⟨rfl, ?_⟩)
    unfold ltK
    rw [if_neg ex]
theorem sortable_pi {a : Addr} {vs : List Value} {k : Value → List Int × Int} (hu : A.units < cLine) (h0 : 0 < vs.length) (hp : ∀ v ∈ vs, IsPI s.heap v (k v)) (ha : ∀ o, s.heap.get? a = some o → o.cls ≠ .type "tuple") : SrtO.SortableO prog w A s a vs fun v u => ltK (k v) (k u) := by
  intro h' keep
  have hp' : ∀ v ∈ vs, IsPI h' v (k v) := fun v hm => (hp v hm).keeps fun b o e c => keep b o (fun z => by subst z; exact ha o e c) e
  obtain ⟨fs, h1, h2, h3⟩ := firsts_pi vs fun v hm => ⟨_, hp' v hm⟩
  refine ⟨tuples' false, fun Q E hq => ?_, cmp_pi (s := { s with heap := h' }) hu hp'⟩
  refine kat_kind (s := { s with heap := h' }) (T := .type "tuple") h1 (by omega) (fun f hm => ?_) (by rfl) ?_
  · obtain ⟨q, o, rfl, ho, hc⟩ := h3 f hm
    have z : PySem.W.Looks (model prog w) h' (typeOf (.ref q)) o.cls := (PySem.W.Looks.ld ho).andThen .now
    rw [hc] at z
    exact z
  · have e : (Value.type "tuple" != Value.type "tuple") = false := by first | decide +kernel | rfl | decide
    rw [e]
    exact hq
end
end K23S
namespace L2
open PySem PySem.Spec PyProof.Rows K23S
/-- sorted(xs), xs pairs of a tuple of whole numbers and a number -/
def rSortedPI (K : PySem.W.Frag) : List V → Hp → VK → Prop := fun vs H Q => ∃ (a : Addr) (xs : List V) (k : V → List Int × Int), vs = [V.ref a] ∧ SqL K H a xs ∧ (∀ x ∈ xs, ∃ t r, x = V.ref t ∧ H t = some (.tup [.ref r, .int (k x).2]) ∧ SqT K H r ((k x).1.map V.int)) ∧
  ∀ ys p, SrtO.Srtd (fun x y => ltK (k x) (k y)) ys → ys.Perm xs → H p = none → Q (.ref p) (upd H p (.lst ys))
section
variable {X : Cx}
theorem cr_sortedPI (hu : X.A.units + 64 < cLine) : CallR X (.builtin "sorted") (rSortedPI X.K) := by
  intro pins s σ H vs us Q I r h
  obtain ⟨a, xs, k, rfl, hs, hx, q⟩ := h
  obtain ⟨its, rv, hl, hz⟩ := I.list hs
  obtain ⟨u, rfl, ru⟩ := vals1 r
  obtain rfl : u = Value.ref a := ru
  obtain ⟨e1, e2⟩ := refs_back rv fun x m => by
    obtain ⟨t, _, e, _⟩ := hx x m
    exact ⟨t, e⟩
  have hp : ∀ v ∈ its, IsPI s.heap v (k (backV v)) := fun v hv => by
    obtain ⟨t, rfl⟩ := e2 v hv
    have hm : V.ref t ∈ xs := by rw [e1]; exact List.mem_map.mpr ⟨_, hv, rfl⟩
    obtain ⟨t', r, e, ht, hr⟩ := hx _ hm
    cases e
    obtain ⟨_, its2, r2, o, ho, hc, n, hd⟩ := I.hok _ _ ht
    obtain ⟨u1, u2, rfl, ri, rj⟩ := vals2 r2
    cases ri
    obtain ⟨t2, rfl⟩ := rj
    obtain ⟨its3, r3, p3, _⟩ := I.tuple hr
    exact ⟨t, r, t2, its3.toArray, rfl, ⟨o, ho, hc, n, hd⟩, p3, intsAre_of r3⟩
  refine SrtO.sorted_ord (ltK_swo fun u => k (backV u)) hl.isList (by rw [← rv.length]; exact hz) (fun h2 h₁ b ho kk => ?_) fun out h1 h2 => ?_
  · refine sortable_pi (s := { s with heap := h₁ }) (show X.A.units + 1 + 1 < cLine by omega) (by omega) (fun v hm => (hp v hm).keeps fun c o e _ => (kk c o e).2) fun o e => ?_
    have e' : some o = some (seqObj "list" its.toArray 0) := e.symm.trans ho
    cases e'
    intro c
    exact absurd (Value.type.inj c) (by decide)
  · have h3 : ∀ u ∈ out, ∃ a, u = Value.ref a := fun u hu => e2 u (h2.perm.mem_iff.mp hu)
    obtain ⟨n, hn⟩ := sortedAll_at s.heap its out.toArray
    have hb : (out.map backV).Perm xs := by
      rw [e1]
      exact h2.perm.map backV
    refine ⟨.ref (s.heap.objs.size + 1), upd H (s.heap.objs.size + 1) (.lst (out.map backV)), I.laid (t' := s.toks) (fun b o e => sortedAll_old e) (Nat.le_succ _) ⟨?_, out, n, vals_back h3, hn⟩, rfl, q _ _ (SrtO.srtd_map (lt := fun x y => ltK (k x) (k y)) h1) hb (I.hok.fresh (Nat.le_succ _))⟩
    rw [hb.length_eq]
    exact hz
end
end L2
set_option Elab.async false
set_option linter.all false
set_option maxRecDepth 100000
set_option maxHeartbeats 4000000
namespace K23
open PySem PySem.Spec PyProof.Rows L2 Dt K23S
/-! ### lines as lists of pairs -/
def enD (e : List Int × PyData) : PyData := .tuple [intsD e.1, e.2]
def lineD (es : List (List Int × PyData)) : PyData := .tuple (es.map enD)
theorem num_ints : ∀ ns : List Int, (ns.map PyData.int).filterMap numOf = ns
  | [] => rfl
  | n :: ns => by
    rw [List.map_cons, List.filterMap_cons_some (show numOf (.int n) = some n from rfl), num_ints ns]
theorem rk_intsD (ns : List Int) : rkInts (intsD ns) = ns := num_ints ns
theorem rank_intsD {ns : List Int} (h : RankI ns) : rankOf (intsD ns) = true := by
  show (decide ((ns.map PyData.int).length ≤ 8) && (ns.map PyData.int).all partB) = true
  rw [List.length_map, decide_eq_true h.1, Bool.true_and, List.all_eq_true]
  intro d hd
  obtain ⟨i, hi, rfl⟩ := List.mem_map.mp hd
  have := h.2 i hi
  show (decide (-rankB < i) && decide (i < rankB)) = true
  rw [decide_eq_true this.1, decide_eq_true this.2]
  rfl
theorem lex_nil (xs : List Int) : HT.lexLt xs [] = false := by cases xs <;> rfl
theorem lineGo_D : ∀ (es : List (List Int × PyData)) (last : List Int), (∀ e ∈ es, RankI e.1) → es.Pairwise (fun a b => HT.lexLt b.1 a.1 = false) → (∀ e ∈ es, HT.lexLt e.1 last = false) → lineGo last (es.map enD) = true
  | [], _, _, _, _ => rfl
  | e :: es, last, h1, h2, h3 => by
    have h4 := List.pairwise_cons.mp h2
    rw [List.map_cons]
    show lineGo last (.tuple [intsD e.1, e.2] :: es.map enD) = true
    rw [lineGo_pair, rank_intsD (h1 e (by simp)), rk_intsD, h3 e (by simp), lineGo_D es e.1 (fun x hx => h1 x (by simp [hx])) h4.2 (fun x hx => h4.1 x hx)]
    rfl
theorem line_D {es : List (List Int × PyData)} (h1 : ∀ e ∈ es, RankI e.1) (h2 : es.Pairwise (fun a b => HT.lexLt b.1 a.1 = false)) : lineOf (lineD es) = true :=
  lineGo_D es [] h1 h2 fun e _ => lex_nil e.1
theorem rks_D (es : List (List Int × PyData)) : rksOf (es.map enD) = es.map (·.1) := by
  unfold rksOf
  rw [List.map_map]
  refine List.map_congr_left fun e _ => ?_
  exact rk_intsD e.1
theorem place_count {rs : List (List Int)} {r : List Int} {p : Nat} (h : PlaceIs rs r p) : p = (rs.filter fun s => !HT.lexLt r s).length := by
  have e1 : (rs.take p).filter (fun s => !HT.lexLt r s) = rs.take p := List.filter_eq_self.mpr fun s hs => by
    obtain ⟨i, hi⟩ := List.mem_iff_getElem?.mp hs
    have hip : i < p := by
      have := (List.getElem?_eq_some_iff.mp hi).1
      rw [List.length_take] at this
      omega
    rw [List.getElem?_take_of_lt hip] at hi
    rw [h.lo i s hip hi]
    rfl
  have e2 : (rs.drop p).filter (fun s => !HT.lexLt r s) = [] := List.filter_eq_nil_iff.mpr fun s hs => by
    obtain ⟨i, hi⟩ := List.mem_iff_getElem?.mp hs
    rw [List.getElem?_drop] at hi
    rw [h.hi (p + i) s (by omega) hi]
    simp
  have e3 : rs.filter (fun s => !HT.lexLt r s) = rs.take p := by
    conv => lhs; rw [← List.take_append_drop p rs]
    rw [List.filter_append, e1, e2, List.append_nil]
  rw [e3, List.length_take]
  have := h.le
  omega
theorem put_D (es : List (List Int × PyData)) (p : Nat) (r : List Int) (it : PyData) : putD (es.map enD) p (intsD r) it = lineD (es.take p ++ [(r, it)] ++ es.drop p) := by
  unfold putD lineD
  rw [List.map_append, List.map_append, List.map_take, List.map_drop]
  rfl
theorem plain_intsD {ns : List Int} {n : Nat} (h : ns.length ≤ 1000) : plainN (n + 2) (intsD ns) := by
  refine ⟨by rw [List.length_map]; exact h, fun d hd => ?_⟩
  obtain ⟨i, _, rfl⟩ := List.mem_map.mp hd
  exact trivial
theorem plain_D {es : List (List Int × PyData)} (h : es.length ≤ 1000) (h1 : ∀ e ∈ es, RankI e.1 ∧ plainN 3 e.2) : plainN 5 (lineD es) := by
  refine ⟨by rw [List.length_map]; exact h, fun d hd => ?_⟩
  obtain ⟨e, he, rfl⟩ := List.mem_map.mp hd
  obtain ⟨h2, h3⟩ := h1 e he
  refine ⟨by show 2 ≤ 1000; decide, fun d hd => ?_⟩
  rcases List.mem_cons.mp hd with rfl | hd
  · exact plain_intsD (n := 1) (Nat.le_trans h2.1 (by decide))
  · obtain rfl := List.mem_singleton.mp hd
    exact h3
/-! ### sorted with the turn of coming -/
abbrev T3 := (List Int × Int) × PyData
def zip3 (rks : List (List Int)) (its : List PyData) (n : Nat) : List T3 := (List.range n).map fun k => ((rks.getD k [], ((k : Nat) : Int)), its.getD k .none)
structure SL (rks : List (List Int)) (its : List PyData) (n : Nat) (L : List T3) : Prop where
  perm : L.Perm (zip3 rks its n)
  srt : L.Pairwise fun a b => ltK b.1 a.1 = false
def strip (e : T3) : List Int × PyData := (e.1.1, e.2)
theorem perm_uniq {α : Type} {r : α → α → Prop} : ∀ {l m : List α}, (∀ a ∈ l, ∀ b ∈ l, r a b → r b a → a = b) → l.Perm m → l.Pairwise r → m.Pairwise r → l = m
  | [], m, _, h, _, _ => (List.Perm.eq_nil h.symm).symm
  | a :: l, [], _, h, _, _ => absurd h.length_eq (by simp)
  | a :: l, b :: m, an, h, h1, h2 => by
    have p1 := List.pairwise_cons.mp h1
    have p2 := List.pairwise_cons.mp h2
    have e : a = b := by
      rcases List.mem_cons.mp (h.mem_iff.mp (List.mem_cons_self (a := a) (l := l))) with e | ha
      · exact e
      · rcases List.mem_cons.mp (h.mem_iff.mpr (List.mem_cons_self (a := b) (l := m))) with e | hb
        · exact e.symm
        · exact an a (by simp) b (by simp [hb]) (p1.1 b hb) (p2.1 a ha)
    subst e
    rw [perm_uniq (fun x hx y hy => an x (by simp [hx]) y (by simp [hy])) (List.Perm.cons_inv h) p1.2 p2.2]
theorem zip3_mem {rks : List (List Int)} {its : List PyData} {n : Nat} {e : T3} (h : e ∈ zip3 rks its n) : ∃ k, k < n ∧ e = ((rks.getD k [], ((k : Nat) : Int)), its.getD k .none) := by
  obtain ⟨k, hk, rfl⟩ := List.mem_map.mp h
  exact ⟨k, List.mem_range.mp hk, rfl⟩
theorem SL.uniq {rks : List (List Int)} {its : List PyData} {n : Nat} {L M : List T3} (a : SL rks its n L) (b : SL rks its n M) : L = M := by
  refine perm_uniq (fun x hx y hy h1 h2 => ?_) (a.perm.trans b.perm.symm) a.srt b.srt
  obtain ⟨i, _, rfl⟩ := zip3_mem (a.perm.mem_iff.mp hx)
  obtain ⟨j, _, rfl⟩ := zip3_mem (a.perm.mem_iff.mp hy)
  rw [ltK_no] at h1 h2
  have e : ((i : Nat) : Int) = (j : Nat) := by
    rcases h1 with h1 | ⟨e1, h1⟩
    · rcases h2 with h2 | ⟨e2, h2⟩
      · exact absurd (lex_trans h1 h2) (by rw [lex_irr]; simp)
      · have e2' : rks.getD i [] = rks.getD j [] := e2
        have h1' : HT.lexLt (rks.getD i []) (rks.getD j []) = true := h1
        rw [e2', lex_irr] at h1'
        exact nomatch h1'
    · rcases h2 with h2 | ⟨e2, h2⟩
      · have e1' : rks.getD j [] = rks.getD i [] := e1
        have h2' : HT.lexLt (rks.getD j []) (rks.getD i []) = true := h2
        rw [e1', lex_irr] at h2'
        exact nomatch h2'
      · have h1' : ((i : Nat) : Int) ≤ (j : Nat) := h1
        have h2' : ((j : Nat) : Int) ≤ (i : Nat) := h2
        omega
  have e' : i = j := by omega
  rw [e']
theorem zip3_snoc {rks : List (List Int)} {its : List PyData} {n : Nat} (hr : rks.length = n) (hi : its.length = n) (r : List Int) (it : PyData) : zip3 (rks ++ [r]) (its ++ [it]) (n + 1) = zip3 rks its n ++ [((r, ((n : Nat) : Int)), it)] := by
  unfold zip3
  rw [List.range_succ, List.map_append]
  congr 1
  · refine List.map_congr_left fun k hk => ?_
    have hk' := List.mem_range.mp hk
    rw [List.getD_eq_getElem?_getD, List.getD_eq_getElem?_getD, List.getElem?_append_left (by omega), List.getElem?_append_left (by omega), ← List.getD_eq_getElem?_getD, ← List.getD_eq_getElem?_getD]
  · show [(((rks ++ [r]).getD n [], ((n : Nat) : Int)), (its ++ [it]).getD n .none)] = _
    rw [List.getD_eq_getElem?_getD, List.getD_eq_getElem?_getD, List.getElem?_append_right (by omega), List.getElem?_append_right (by omega), hr, hi, Nat.sub_self]
    rfl
theorem SL.put {rks : List (List Int)} {its : List PyData} {n : Nat} {L : List T3} (s : SL rks its n L) (hr : rks.length = n) (hi : its.length = n) {r : List Int} {it : PyData} {p : Nat} (h : PlaceIs (L.map (·.1.1)) r p) :
    SL (rks ++ [r]) (its ++ [it]) (n + 1) (L.take p ++ [((r, ((n : Nat) : Int)), it)] ++ L.drop p) := by
  refine ⟨?_, ?_⟩
  · rw [zip3_snoc hr hi]
    have h1 : (L.take p ++ [((r, ((n : Nat) : Int)), it)] ++ L.drop p).Perm (L.take p ++ L.drop p ++ [((r, ((n : Nat) : Int)), it)]) := by
      rw [List.append_assoc, List.append_assoc]
      exact List.Perm.append_left _ List.perm_append_comm
    rw [List.take_append_drop] at h1
    exact h1.trans (List.Perm.append_right _ s.perm)
  · have hs := s.srt
    rw [← List.take_append_drop p L, List.pairwise_append] at hs
    have lo : ∀ a ∈ L.take p, ltK (r, ((n : Nat) : Int)) a.1 = false := fun a ha => by
      obtain ⟨i, hi2⟩ := List.mem_iff_getElem?.mp ha
      have hip : i < p := by
        have := (List.getElem?_eq_some_iff.mp hi2).1
        rw [List.length_take] at this
        omega
      rw [List.getElem?_take_of_lt hip] at hi2
      have h1 := h.lo i a.1.1 hip (by rw [List.getElem?_map, hi2]; rfl)
      obtain ⟨k, hk, e⟩ := zip3_mem (s.perm.mem_iff.mp (List.mem_of_getElem? hi2))
      rw [ltK_no]
      cases h2 : HT.lexLt a.1.1 r with
      | true => exact .inl rfl
      | false =>
        refine .inr ⟨lex_tot _ _ h1 h2, ?_⟩
        rw [e]
        show ((k : Nat) : Int) ≤ (n : Nat)
        omega
    have hi' : ∀ a ∈ L.drop p, ltK a.1 (r, ((n : Nat) : Int)) = false := fun a ha => by
      obtain ⟨i, hi2⟩ := List.mem_iff_getElem?.mp ha
      rw [List.getElem?_drop] at hi2
      have h1 := h.hi (p + i) a.1.1 (by omega) (by rw [List.getElem?_map, hi2]; rfl)
      rw [ltK_no]
      exact .inl h1
    rw [List.append_assoc, List.pairwise_append]
    refine ⟨hs.1, ?_, ?_⟩
    · rw [List.singleton_append, List.pairwise_cons]
      exact ⟨fun a ha => hi' a ha, hs.2.1⟩
    · intro a ha b hb
      rcases List.mem_append.mp hb with hb | hb
      · obtain rfl := List.mem_singleton.mp hb
        exact lo a ha
      · exact hs.2.2 a ha b hb
theorem SL.ranks {rks : List (List Int)} {its : List PyData} {n : Nat} {L : List T3} (s : SL rks its n L) (hr : rks.length = n) : (L.map (·.1.1)).Perm rks := by
  have h1 := s.perm.map (fun e : T3 => e.1.1)
  have e : (zip3 rks its n).map (fun e : T3 => e.1.1) = rks := by
    unfold zip3
    rw [List.map_map]
    refine List.ext_getElem (by rw [List.length_map, List.length_range, hr]) fun i h1 h2 => ?_
    rw [List.getElem_map, List.getElem_range]
    show rks.getD i [] = _
    rw [List.getD_eq_getElem?_getD, List.getElem?_eq_getElem h2]
    rfl
  rw [e] at h1
  exact h1
theorem SL.len {rks : List (List Int)} {its : List PyData} {n : Nat} {L : List T3} (s : SL rks its n L) : L.length = n := by
  rw [s.perm.length_eq]
  unfold zip3
  rw [List.length_map, List.length_range]
theorem SL.mem {rks : List (List Int)} {its : List PyData} {n : Nat} {L : List T3} (s : SL rks its n L) (hr : rks.length = n) (hi : its.length = n) {e : T3} (h : e ∈ L) : e.1.1 ∈ rks ∧ e.2 ∈ its := by
  obtain ⟨k, hk, rfl⟩ := zip3_mem (s.perm.mem_iff.mp h)
  refine ⟨?_, ?_⟩
  · show rks.getD k [] ∈ rks
    rw [List.getD_eq_getElem?_getD, List.getElem?_eq_getElem (by omega)]
    exact List.getElem_mem _
  · show its.getD k .none ∈ its
    rw [List.getD_eq_getElem?_getD, List.getElem?_eq_getElem (by omega)]
    exact List.getElem_mem _
/-- of a sorted list: the line is one -/
theorem SL.line {rks : List (List Int)} {its : List PyData} {n : Nat} {L : List T3} (s : SL rks its n L) (hr : rks.length = n) (hi : its.length = n) (h : ∀ r ∈ rks, RankI r) : lineOf (lineD (L.map strip)) = true := by
  refine line_D (fun e he => ?_) ?_
  · obtain ⟨x, hx, rfl⟩ := List.mem_map.mp he
    exact h _ (s.mem hr hi hx).1
  · rw [List.pairwise_map]
    refine List.Pairwise.imp (fun {a b} hab => ?_) s.srt
    rw [ltK_no] at hab
    show HT.lexLt b.1.1 a.1.1 = false
    rcases hab with hab | ⟨e, _⟩
    · exact NtL.lex_asym _ _ hab
    · rw [e, lex_irr]
theorem strip_ranks (L : List T3) : (L.map strip).map (·.1) = L.map (·.1.1) := by
  rw [List.map_map]
  rfl
theorem SL.nil : SL [] [] 0 [] := ⟨List.Perm.refl _, List.Pairwise.nil⟩
end K23
set_option Elab.async false
set_option linter.all false
set_option maxRecDepth 100000
set_option maxHeartbeats 4000000
namespace K23
open PySem PySem.Spec PyProof.Rows L2 Dt K23S
/-! ### _law_sorted -/
theorem Go.upd {D : Addr} {H H' : Hp} {o : HO} (g : Go D H H') : Go D H (L2.upd H' D o) := fun x u h => by
  have h2 := g x u h
  by_cases z : x = D
  · rw [z, del_same] at h
    exact nomatch h
  · rw [del_ne z] at h2 ⊢
    rw [upd_ne z]
    exact h2
theorem off_new {K : PySem.W.Frag} {H H' : Hp} {D : Addr} {v : V} {d : PyData} (h : Dp K H v d) (hD : H D = none) (s : Same H H') : Dp K (del H' D) v d := dp_same (fun x u e => by
  have : x ≠ D := fun z => by rw [z, hD] at e; exact nomatch e
  rw [del_ne this]
  exact s x u e) h
def RkV (K : PySem.W.Frag) (H : Hp) (x : V) (ns : List Int) : Prop := ∃ a, x = .ref a ∧ SqT K H a (ns.map V.int)
theorem RkV.same {K : PySem.W.Frag} {H H' : Hp} {x : V} {ns : List Int} (h : RkV K H x ns) (s : Same H H') : RkV K H' x ns := by
  obtain ⟨a, e, h⟩ := h
  exact ⟨a, e, same_sqt s h⟩
theorem dp_ints {K : PySem.W.Frag} {H : Hp} : ∀ ns : List Int, DpAll K H (ns.map V.int) (ns.map PyData.int)
  | [] => .nil
  | n :: ns => .cons (.int n) (dp_ints ns)
theorem RkV.dp {K : PySem.W.Frag} {H : Hp} {x : V} {ns : List Int} (h : RkV K H x ns) : Dp K H x (intsD ns) := by
  obtain ⟨a, rfl, h⟩ := h
  exact .tup h (dp_ints ns)
def kAt (H : Hp) (rks : List (List Int)) : V → List Int × Int
  | .ref t => (match H t with | some (.tup [_, .int i]) => (rks.getD i.toNat [], i) | _ => ([], 0))
  | _ => ([], 0)
theorem kAt_of {H : Hp} {rks : List (List Int)} {t r : Addr} {j : Nat} (h : H t = some (.tup [.ref r, .int (j : Nat)])) : kAt H rks (.ref t) = (rks.getD j [], ((j : Nat) : Int)) := by
  show (match H t with | some (.tup [_, .int i]) => (rks.getD i.toNat [], i) | _ => ([], 0)) = _
  rw [h]
  rfl
def spSorted (K : PySem.W.Frag) : Sp := fun vs H Q _ => ∃ (R Th : Addr) (xs ys : List V) (rks : List (List Int)) (its : List PyData), vs = [.ref R, .ref Th] ∧ SqL K H R xs ∧ SqL K H Th ys ∧ Paired (RkV K H) xs rks ∧ DpAll K H ys its ∧ its.length = rks.length ∧ rks.length ≤ 1000 ∧
  ∀ L v H', Same H H' → SL rks its rks.length L → Dp K H' v (lineD (L.map strip)) → Q v H'
section
variable {P : Program} {w : World} {K : PySem.W.Frag} {mg : Str → Option Value} {base : Heap} {C U fI fG B S PA : Addr}
theorem ok_sorted (D : DefAt K mg "_law_sorted" s_law_sorted ["ranks", "things"]) (T : Txt K mg) : CalX P w K mg base CX0 1 "_law_sorted" ["ranks", "things"] (spSorted K) := by
  refine D.ok sc_law_sorted (fun vs H Q E h => ?_) (fun f cdv A outer s H vs Q E hr h => ?_)
  · obtain ⟨R, Th, xs, ys, rks, its, rfl, _⟩ := h
    rfl
  obtain ⟨R, Th, xs, ys, rks, its, rfl, hR, hTh, hx, hy, hl1, hl2, q⟩ := h
  refine ⟨_, (pss_cons (ps_set (i := 3) sc_law_sorted.nd rfl (.inl rfl) (pe_callB (cr_sortedPI hr.units) (by rfl) T.sorted (by decide +kernel) (pa_cons (pe_lc (own := [("k", 2)]) (g := gName 2) (tt := tYes) (by rfl) sc_law_sorted.nd (pi_range1 (by rfl) T.range (pa_cons (pe_callB call_len_seq (by rfl) T.len PySem.boot_len (pa_cons (pv 0) pa_nil)) pa_nil)) (blkOk_by (own := [("k", 2)]) (N := N_law_sorted) (sc := defScope s_law_sorted) (by decide +kernel)) (fun _ _ _ _ _ => pg_name (i := 2) sc_law_sorted.nd rfl (Or.inl rfl)) (fun _ _ _ _ _ => pts_nil) (fun _ _ _ _ _ => by exact (pe_tup (pa_cons (pe_ix (show IxR _ (rIxL K) from ix_list) (pv 0) (pv 2) (fun _ _ => rfl)) (pa_cons (pv 2) pa_nil))))) pa_nil))) 
    (pss_one (ps_ret (pe_callTy call_tuple_of (by rfl) T.tuple PyProof.Rows.boot_tuple (pa_cons (pe_lc (own := [("rank", 4), ("k", 2)]) (g := gTup K 2 (gCons (gName 4) (gCons (gName 2) gNil))) (tt := tYes) (by rfl) sc_law_sorted.nd (pi_list (pv 3)) (blkOk_by (own := [("rank", 4), ("k", 2)]) (N := N_law_sorted) (sc := defScope s_law_sorted) (by decide +kernel)) (fun _ _ _ _ _ => by exact (pg_tup (by rfl) (pgs_cons (pg_name (i := 4) sc_law_sorted.nd rfl (Or.inl rfl)) (pgs_cons (pg_name (i := 2) sc_law_sorted.nd rfl (Or.inl rfl)) pgs_nil)))) (fun _ _ _ _ _ => pts_nil) (fun _ _ _ _ _ => by exact (pe_tup (pa_cons (pv 4) (pa_cons (pe_ix (show IxR _ (rIxL K) from ix_list) (pv 1) (pv 2) (fun _ _ => rfl)) pa_nil))))) pa_nil))))), ?_⟩
  have hxl := Paired.len hx
  have hyl := dps_len hy
  refine ⟨_, rfl, R, xs, rfl, .inl hR, ?_⟩
  refine ⟨_, rfl, by omega, by omega, fun Dl hDl => lc_range (lo := 0) (n := xs.length) (fun i H' => Same H H' ∧ ∃ acc, H' Dl = some (.lst acc) ∧ acc.length = i ∧ ∀ j, j < i → ∃ t r, acc[j]? = some (.ref t) ∧ H' t = some (.tup [.ref r, .int (j : Nat)]) ∧ xs[j]? = some (.ref r)) ⟨same_new hDl, [], upd_same, rfl, fun j h => absurd h (Nat.not_lt_zero _)⟩ ?_ ?_⟩
  · rintro i H' hi ⟨sm, acc, hD, hal, hj⟩
    have hxi : xs[i]? = some xs[i] := List.getElem?_eq_getElem hi
    obtain ⟨ns, hns⟩ : ∃ ns, rks[i]? = some ns := ⟨_, List.getElem?_eq_getElem (by omega)⟩
    obtain ⟨v, hv, r, hvr, hr2⟩ := Paired.at hx hns
    rw [hxi] at hv
    rw [Option.some.inj hv, hvr] at hxi
    refine ⟨rfl, _, rfl, _, rfl, R, xs, _, _, rfl, rfl, sm.seq hR, (by rw [Int.zero_add]; exact atI_nat hxi), _, rfl, (by show 2 ≤ sizeLine; decide), fun p hp => ?_⟩
    rw [Int.zero_add]
    have sp : Same H' (upd H' p (.tup [.ref r, .int (i : Nat)])) := same_new hp
    have hpD : p ≠ Dl := fun z => by rw [z, hD] at hp; exact nomatch hp
    refine ⟨acc, sp _ _ hD, small1000 (by omega), same_mut (sm.trans sp) hDl, acc ++ [.ref p], upd_same, by rw [List.length_append]; show acc.length + 1 = i + 1; omega, fun j hj2 => ?_⟩
    by_cases z : j = i
    · subst z
      exact ⟨p, r, by rw [List.getElem?_append_right (by omega), hal, Nat.sub_self]; rfl, by rw [upd_ne hpD, upd_same], hxi⟩
    · obtain ⟨t, r', e1, e2, e3⟩ := hj j (by omega)
      refine ⟨t, r', by rw [List.getElem?_append_left (by omega)]; exact e1, ?_, e3⟩
      have htD : t ≠ Dl := fun z => by
        rw [z, hD] at e2
        injection e2 with e2
        cases e2
      rw [upd_ne htD]
      exact sp _ _ e2
  · rintro H1 ⟨sm, acc, hD, hal, hj⟩
    have hk : ∀ x ∈ acc, ∃ (j : Nat) (t r : Addr), j < xs.length ∧ x = .ref t ∧ H1 t = some (.tup [.ref r, .int (j : Nat)]) ∧ xs[j]? = some (.ref r) ∧ kAt H1 rks x = (rks.getD j [], ((j : Nat) : Int)) := fun x hx2 => by
      obtain ⟨j, hj2⟩ := List.mem_iff_getElem?.mp hx2
      have hjl := (List.getElem?_eq_some_iff.mp hj2).1
      obtain ⟨t, r, e1, e2, e3⟩ := hj j (by omega)
      rw [hj2] at e1
      obtain rfl := Option.some.inj e1
      exact ⟨j, t, r, by omega, rfl, e2, e3, kAt_of e2⟩
    have rk_at : ∀ (j : Nat) (r : Addr), j < xs.length → xs[j]? = some (.ref r) → SqT K H r ((rks.getD j []).map V.int) := fun j r hj2 e => by
      obtain ⟨ns, hns⟩ : ∃ ns, rks[j]? = some ns := ⟨_, List.getElem?_eq_getElem (by omega)⟩
      obtain ⟨v, hv, r', hvr, hr2⟩ := Paired.at hx hns
      rw [e, hvr] at hv
      have : r = r' := by
        have := Option.some.inj hv
        injection this
      rw [this, List.getD_eq_getElem?_getD, hns]
      exact hr2
    refine ⟨Dl, acc, kAt H1 rks, rfl, SqL.of hD, fun x hx2 => ?_, fun ys2 p hs hp hpn => ?_⟩
    · obtain ⟨j, t, r, hj2, rfl, e2, e3, e4⟩ := hk x hx2
      refine ⟨t, r, rfl, by rw [e4]; exact e2, ?_⟩
      rw [e4]
      exact same_sqt sm (rk_at j r hj2 e3)
    have sm2 : Same H1 (upd H1 p (.lst ys2)) := same_new hpn
    have hp2 : (upd H1 p (.lst ys2)) p = some (.lst ys2) := upd_same
    revert sm2 hp2
    generalize upd H1 p (.lst ys2) = H2
    intro sm2 hp2
    have hyl2 : ys2.length = xs.length := by rw [hp.length_eq]; exact hal
    -- the result
    have hL : SL rks its rks.length (ys2.map fun y => (kAt H1 rks y, its.getD (kAt H1 rks y).2.toNat .none)) := by
      refine ⟨?_, ?_⟩
      · refine (hp.map _).trans ?_
        have e : acc.map (fun y => (kAt H1 rks y, its.getD (kAt H1 rks y).2.toNat .none)) = zip3 rks its rks.length := by
          unfold zip3
          refine List.ext_getElem (by rw [List.length_map, List.length_map, List.length_range]; omega) fun i h1 h2 => ?_
          rw [List.length_map] at h1
          rw [List.getElem_map, List.getElem_map, List.getElem_range]
          obtain ⟨t, r, e1, e2, e3⟩ := hj i (by omega)
          have e5 : acc[i] = .ref t := by
            rw [List.getElem?_eq_getElem h1] at e1
            exact Option.some.inj e1
          rw [e5, kAt_of e2]
          rfl
        rw [e]
      · rw [List.pairwise_map]
        exact hs
    refine ⟨_, rfl, p, rfl, ⟨_, SqL.of hp2⟩, fun D2 hD2 => lc_list (K := K) (a := p) (xs := ys2) (fun i H' => Same H2 H' ∧ ∃ acc2, H' D2 = some (.lst acc2) ∧ DpAll K (del H' D2) acc2 ((ys2.take i).map fun y => enD ((kAt H1 rks y).1, its.getD (kAt H1 rks y).2.toNat .none))) ⟨same_new hD2, [], upd_same, .nil⟩ (fun i H' _ ⟨s3, _⟩ => SqL.of (s3 _ _ hp2)) ?_ ?_⟩
    · rintro i y H' hi ⟨s3, acc2, hA, hd⟩
      have hil := (List.getElem?_eq_some_iff.mp hi).1
      obtain ⟨j, t, r, hj2, rfl, e2, e3, e4⟩ := hk y (hp.mem_iff.mp (List.mem_of_getElem? hi))
      have e2' := s3 _ _ (sm2 _ _ e2)
      obtain ⟨it, hit⟩ : ∃ it, its[j]? = some it := ⟨_, List.getElem?_eq_getElem (by omega)⟩
      obtain ⟨yv, hyv⟩ : ∃ yv, ys[j]? = some yv := ⟨_, List.getElem?_eq_getElem (by omega)⟩
      obtain ⟨it', hit', hdy⟩ := dps_at hy hyv
      rw [hit] at hit'
      obtain rfl := Option.some.inj hit'
      have hlen2 := dps_len hd
      rw [List.length_map, List.length_take] at hlen2
      have sA := sm.trans (sm2.trans s3)
      refine ⟨t, _, rfl, SqT.of e2', rfl, _, _, rfl, _, _, rfl, rfl, rfl, _, rfl, _, rfl, _, rfl, Th, ys, _, _, rfl, rfl, sA.seq hTh, atI_nat hyv, (by show 2 ≤ sizeLine; decide), fun T2 hT2 => ?_⟩
      have sp : Same H' (upd H' T2 (.tup [.ref r, yv])) := same_new hT2
      have hTD : T2 ≠ D2 := fun z => by rw [z, hA] at hT2; exact nomatch hT2
      have hDH : H D2 = none := (sm.trans sm2).free hD2
      refine ⟨acc2, sp _ _ hA, small1000 (by omega), same_mut (s3.trans sp) hD2, acc2 ++ [.ref T2], upd_same, ?_⟩
      have g1 : Go D2 H' (L2.upd (L2.upd H' T2 (.tup [.ref r, yv])) D2 (.lst (acc2 ++ [.ref T2]))) := (Go.of sp).upd
      rw [List.take_add_one, hi, List.map_append]
      refine dps_app (dps_same g1 hd) (.cons ?_ .nil)
      show Dp K _ _ (enD ((kAt H1 rks (V.ref t)).1, its.getD (kAt H1 rks (V.ref t)).2.toNat .none))
      rw [e4]
      show Dp K _ _ (.tuple [intsD (rks.getD j []), its.getD j .none])
      have eg : its.getD j .none = it := by rw [List.getD_eq_getElem?_getD, hit]; rfl
      rw [eg]
      have sB : ∀ {v d}, Dp K H v d → Dp K (del (L2.upd (L2.upd H' T2 (.tup [.ref r, yv])) D2 (.lst (acc2 ++ [.ref T2]))) D2) v d := fun h => dp_same g1 (off_new h hDH sA)
      refine .tup (SqT.of ?_) (.cons (sB (RkV.dp ⟨r, rfl, rk_at j r hj2 e3⟩)) (.cons (sB hdy) .nil))
      rw [del_ne hTD, upd_ne hTD, upd_same]
    · rintro H' ⟨s3, acc2, hA, hd⟩
      rw [List.take_length] at hd
      refine ⟨D2, acc2, rfl, .inl ⟨SqL.of hA, fun l hl3 => ?_⟩⟩
      have s4 : Same H' (upd H' l (.tup acc2)) := same_new hl3
      refine q _ (.ref l) _ (sm.trans (sm2.trans (s3.trans s4))) hL ?_
      refine .tup (SqT.of upd_same) ?_
      have e : ((ys2.map fun y => (kAt H1 rks y, its.getD (kAt H1 rks y).2.toNat .none)).map strip).map enD = ys2.map fun y => enD ((kAt H1 rks y).1, its.getD (kAt H1 rks y).2.toNat .none) := by
        rw [List.map_map, List.map_map]
        rfl
      rw [e]
      exact dps_same s4 (dps_same off_same hd)
end
end K23
set_option Elab.async false
set_option linter.all false
set_option maxRecDepth 100000
set_option maxHeartbeats 8000000
namespace K23
open PySem PySem.Spec PyProof.Rows L2 Dt K23S
/-! ### data that rests on none of some lists -/
def offS (S : List Addr) (H : Hp) : Hp := fun b => if b ∈ S then none else H b
theorem offS_in {S : List Addr} {H : Hp} {b : Addr} (h : b ∈ S) : offS S H b = none := if_pos h
theorem offS_ne {S : List Addr} {H : Hp} {b : Addr} (h : b ∉ S) : offS S H b = H b := if_neg h
theorem offS_some {S : List Addr} {H : Hp} {b : Addr} {o : HO} (h : offS S H b = some o) : b ∉ S ∧ H b = some o := by
  by_cases z : b ∈ S
  · rw [offS_in z] at h
    exact nomatch h
  · rw [offS_ne z] at h
    exact ⟨z, h⟩
theorem offS_same {S : List Addr} {H : Hp} : Same (offS S H) H := fun b o h => (offS_some h).2
def GoS (S : List Addr) (H H' : Hp) : Prop := Same (offS S H) (offS S H')
theorem GoS.refl {S : List Addr} {H : Hp} : GoS S H H := fun _ _ h => h
theorem GoS.trans {S : List Addr} {H H1 H2 : Hp} (a : GoS S H H1) (b : GoS S H1 H2) : GoS S H H2 := fun x o h => b x o (a x o h)
theorem GoS.of {S : List Addr} {H H' : Hp} (e : Same H H') : GoS S H H' := fun x o h => by
  obtain ⟨h1, h2⟩ := offS_some h
  rw [offS_ne h1]
  exact e x o h2
theorem GoS.rn {K : PySem.W.Frag} {S : List Addr} {tp ca : Addr} {H H' : Hp} (r : Rn K tp ca H H') (h : tp ∈ S) : GoS S H H' := fun x o e => by
  obtain ⟨h1, h2⟩ := offS_some e
  rw [offS_ne h1]
  exact r.at h2 fun z => h1 (by rw [z]; exact h)
theorem GoS.upd {S : List Addr} {H H' : Hp} {p : Addr} {o : HO} (g : GoS S H H') (h : p ∈ S) : GoS S H (L2.upd H' p o) := fun x u e => by
  obtain ⟨h1, h2⟩ := offS_some (g x u e)
  rw [offS_ne h1, upd_ne (fun z => h1 (by rw [z]; exact h))]
  exact h2
theorem DpF.offS {K : PySem.W.Frag} {S : List Addr} {H H' : Hp} {v : V} {d : PyData} (f : DpF K H H' v d) (h : ∀ a ∈ S, H a ≠ none) : Dp K (K23.offS S H') v d := f _ fun b u h1 h2 => by
  rw [offS_ne (fun z => h b z h1)]
  exact h2
theorem dp_onS {K : PySem.W.Frag} {S : List Addr} {H : Hp} {v : V} {d : PyData} (h : Dp K (offS S H) v d) : Dp K H v d := dp_same offS_same h
/-! ### lines that come -/
def LineOK (es : List (List Int × PyData)) : Prop := es.length ≤ 1000 ∧ (∀ e ∈ es, RankI e.1 ∧ plainN 3 e.2) ∧ lineOf (lineD es) = true
theorem LineOK.len {es : List (List Int × PyData)} (h : LineOK es) : ∀ ds, lineD es = .tuple ds → ds.length ≤ 1000000 := fun ds e => by
  injection e with e
  rw [← e, List.length_map]
  have := h.1
  omega
theorem rkv_dp {K : PySem.W.Frag} {H : Hp} {a : Addr} {ns : List Int} (h : SqT K H a (ns.map V.int)) : Dp K H (.ref a) (intsD ns) := .tup h (dp_ints ns)
section
variable {K : PySem.W.Frag} {H : Hp} {Q : VK} {a : Addr} {ns : List Int} {es : List (List Int × PyData)} {x : V}
/-- a place is asked for: the count -/
theorem ask_place (hx : Dp K H x (lineD es)) (hl : LineOK es) (ha : SqT K H a (ns.map V.int)) (hr : RankI ns) (q : ∀ H', Same H H' → Q (.int (((es.map (·.1)).filter fun s => !HT.lexLt ns s).length : Nat)) H') : AskPlace K x (.ref a) H Q := by
  refine ⟨lineD es, intsD ns, hx, rkv_dp ha, hl.len, fun e => ?_, fun _ e => ?_, fun ds p H' e _ _ hp s => ?_⟩
  · rw [hl.2.2] at e; exact nomatch e
  · rw [rank_intsD hr] at e; exact nomatch e
  · injection e with e
    rw [← e, rks_D, rk_intsD] at hp
    have := place_count hp
    rw [this]
    exact q H' s
/-- an entry is put -/
theorem ask_entry {z : V} {it : PyData} (hx : Dp K H x (lineD es)) (hl : LineOK es) (hl2 : es.length ≤ 900) (ha : SqT K H a (ns.map V.int)) (hr : RankI ns) (hz : Dp K H z it) (hi : plainN 3 it)
    (q : ∀ p, PlaceIs (es.map (·.1)) ns p → ∀ v H', Same H H' → DpF K H H' v (lineD (es.take p ++ [(ns, it)] ++ es.drop p)) → Q v H') : AskEntry K 6 x (.ref a) z H Q := by
  refine ⟨lineD es, intsD ns, it, hx, rkv_dp ha, hz, hl.len, fun e => ?_, fun _ e => ?_, fun ds p e _ _ hp => ?_⟩
  · rw [hl.2.2] at e; exact nomatch e
  · rw [rank_intsD hr] at e; exact nomatch e
  · injection e with e
    rw [← e, rks_D, rk_intsD] at hp
    rw [← e, put_D]
    refine ⟨plainN_mono 5 6 _ (by decide) (plain_D ?_ fun e he => ?_), fun v H' s f => q p hp v H' s f⟩
    · rw [List.length_append, List.length_append, List.length_take, List.length_drop, List.length_singleton]
      have := hl.1
      omega
    · rcases List.mem_append.mp he with he | he
      · rcases List.mem_append.mp he with he | he
        · exact hl.2.1 e (List.mem_of_mem_take he)
        · obtain rfl := List.mem_singleton.mp he
          exact ⟨hr, hi⟩
      · exact hl.2.1 e (List.mem_of_mem_drop he)
end
/-! ### _law_puts -/
def stP (tp : Addr) (m pl mn : Nat) (line : V) (R Th : Addr) (o7 o8 o9 o10 o11 o12 o13 : Option V) : L2.St := [some (.ref tp), some (.int (m : Nat)), some (.int (pl : Nat)), some (.int (mn : Nat)), some line, some (.ref R), some (.ref Th), o7, o8, o9, o10, o11, o12, o13]
/-- the counted place -/
def tAskP (K : PySem.W.Frag) : TS := fun D σ H => ∃ (line : V) (a : Addr) (ns : List Int) (es : List (List Int × PyData)) (nb : Bool), σ[4]? = some (some line) ∧ σ[8]? = some (some (.ref a)) ∧ σ[11]? = some (some (.int (((es.map (·.1)).filter fun s => !HT.lexLt ns s).length : Nat))) ∧ σ[12]? = some (some (.bl nb)) ∧
  Dp K H line (lineD es) ∧ LineOK es ∧ SqT K H a (ns.map V.int) ∧ RankI ns ∧ ∀ H', Same H H' → D.nx σ H'
def tAskE (K : PySem.W.Frag) : TS := fun D σ H => ∃ (line z : V) (a : Addr) (ns : List Int) (es : List (List Int × PyData)) (it : PyData) (nb : Bool), σ[4]? = some (some line) ∧ σ[8]? = some (some (.ref a)) ∧ σ[9]? = some (some z) ∧ σ[12]? = some (some (.bl nb)) ∧
  Dp K H line (lineD es) ∧ LineOK es ∧ es.length ≤ 900 ∧ SqT K H a (ns.map V.int) ∧ RankI ns ∧ Dp K H z it ∧ plainN 3 it ∧
  ∀ p, PlaceIs (es.map (·.1)) ns p → ∀ v H', Same H H' → DpF K H H' v (lineD (es.take p ++ [(ns, it)] ++ es.drop p)) → D.nx (σ.set 13 (some v)) H'
/-- what stands in the two lists -/
structure Two (K : PySem.W.Frag) (H : Hp) (R Th : Addr) (rks : List (List Int)) (its : List PyData) : Prop where
  ex : ∃ xs ys, H R = some (.lst xs) ∧ H Th = some (.lst ys) ∧ Paired (RkV K H) xs rks ∧ DpAll K H ys its
  li : its.length = rks.length
  lr : rks.length ≤ 1000
  rk : ∀ r ∈ rks, RankI r
  pl : ∀ d ∈ its, plainN 3 d
theorem Two.same {K : PySem.W.Frag} {H H' : Hp} {R Th : Addr} {rks : List (List Int)} {its : List PyData} (t : Two K H R Th rks its) (s : Same H H') : Two K H' R Th rks its := by
  obtain ⟨⟨xs, ys, h1, h2, h3, h4⟩, a, b, c, d⟩ := t
  exact ⟨⟨xs, ys, s _ _ h1, s _ _ h2, Paired.mono (fun x ns h => h.same s) h3, dps_same s h4⟩, a, b, c, d⟩
theorem sl_plain {rks : List (List Int)} {its : List PyData} {L : List T3} {K : PySem.W.Frag} {H : Hp} {R Th : Addr} (t : Two K H R Th rks its) (s : SL rks its rks.length L) : plainN 6 (lineD (L.map strip)) := by
  refine plainN_mono 5 6 _ (by decide) (plain_D (by rw [List.length_map, s.len]; exact t.lr) fun e he => ?_)
  obtain ⟨x, hx, rfl⟩ := List.mem_map.mp he
  obtain ⟨h1, h2⟩ := s.mem rfl t.li hx
  exact ⟨t.rk _ h1, t.pl _ h2⟩
theorem sl_ok {rks : List (List Int)} {its : List PyData} {L : List T3} {K : PySem.W.Frag} {H : Hp} {R Th : Addr} (t : Two K H R Th rks its) (s : SL rks its rks.length L) : LineOK (L.map strip) := by
  refine ⟨by rw [List.length_map, s.len]; exact t.lr, fun e he => ?_, s.line rfl t.li t.rk⟩
  obtain ⟨x, hx, rfl⟩ := List.mem_map.mp he
  obtain ⟨h1, h2⟩ := s.mem rfl t.li hx
  exact ⟨t.rk _ h1, t.pl _ h2⟩
/-- the line against the sorted lists, if they are few -/
def tSrtS (K : PySem.W.Frag) : TS := fun D σ H => ∃ (mn : Int) (v : V) (R Th : Addr) (rks : List (List Int)) (its : List PyData) (L : List T3), σ[3]? = some (some (.int mn)) ∧ σ[4]? = some (some v) ∧ σ[5]? = some (some (.ref R)) ∧ σ[6]? = some (some (.ref Th)) ∧
  Two K H R Th rks its ∧ SL rks its rks.length L ∧ Dp K H v (lineD (L.map strip)) ∧ ∀ H', Same H H' → D.nx σ H'
def tSrtT (K : PySem.W.Frag) : TS := fun D σ H => ∃ (v : V) (R Th : Addr) (rks : List (List Int)) (its : List PyData) (L : List T3), σ[13]? = some (some v) ∧ σ[5]? = some (some (.ref R)) ∧ σ[6]? = some (some (.ref Th)) ∧
  Two K H R Th rks its ∧ SL rks its rks.length L ∧ Dp K H v (lineD (L.map strip)) ∧ ∀ H', Same H H' → D.nx σ H'
def stQ (tp : Addr) (m pl mn : Nat) : L2.St := [some (.ref tp), some (.int (m : Nat)), some (.int (pl : Nat)), some (.int (mn : Nat)), none, none, none, none, none, none, none, none, none, none]
def tMany (K : PySem.W.Frag) : TS := fun D σ H => ∃ (tp ca : Addr) (m pl mn : Nat), σ = stQ tp m pl mn ∧ Tape K H tp ca ∧ mn ≤ 12 ∧ ∀ (mn' : Nat) H', mn' ≤ 45 → Rn K tp ca H H' → D.nx (stQ tp m pl mn') H'
/-- the entry once more -/
def tAgain (K : PySem.W.Frag) : TS := fun D σ H => ∃ (mn : Int) (line z told : V) (a : Addr) (ns : List Int) (es : List (List Int × PyData)) (it : PyData) (p : Nat), σ[3]? = some (some (.int mn)) ∧ σ[4]? = some (some line) ∧ σ[8]? = some (some (.ref a)) ∧ σ[9]? = some (some z) ∧ σ[13]? = some (some told) ∧
  Dp K H line (lineD es) ∧ LineOK es ∧ es.length ≤ 900 ∧ SqT K H a (ns.map V.int) ∧ RankI ns ∧ Dp K H z it ∧ plainN 3 it ∧ PlaceIs (es.map (·.1)) ns p ∧ Dp K H told (lineD (es.take p ++ [(ns, it)] ++ es.drop p)) ∧ ∀ H', Same H H' → D.nx σ H'
/-- between two turns -/
structure PI (K : PySem.W.Frag) (H : Hp) (tp R Th : Addr) (line : V) (rks : List (List Int)) (its : List PyData) (L : List T3) : Prop where
  ex : ∃ xs ys, H R = some (.lst xs) ∧ H Th = some (.lst ys) ∧ Paired (RkV K (offS [tp, R, Th] H)) xs rks ∧ DpAll K (offS [tp, R, Th] H) ys its
  li : its.length = rks.length
  lr : rks.length ≤ 45
  rk : ∀ r ∈ rks, RankI r
  pl : ∀ d ∈ its, plainN 3 d
  sl : SL rks its rks.length L
  ln : Dp K (offS [tp, R, Th] H) line (lineD (L.map strip))
theorem PI.two {K : PySem.W.Frag} {H : Hp} {tp R Th : Addr} {line : V} {rks : List (List Int)} {its : List PyData} {L : List T3} (p : PI K H tp R Th line rks its L) : Two K H R Th rks its := by
  obtain ⟨xs, ys, h1, h2, h3, h4⟩ := p.ex
  exact ⟨⟨xs, ys, h1, h2, Paired.mono (fun x ns h => h.same offS_same) h3, dps_same offS_same h4⟩, p.li, Nat.le_trans p.lr (by decide), p.rk, p.pl⟩
theorem PI.go {K : PySem.W.Frag} {H H' : Hp} {tp R Th : Addr} {line : V} {rks : List (List Int)} {its : List PyData} {L : List T3} (p : PI K H tp R Th line rks its L) (g : GoS [tp, R, Th] H H') (hR : H' R = H R) (hT : H' Th = H Th) : PI K H' tp R Th line rks its L := by
  obtain ⟨xs, ys, h1, h2, h3, h4⟩ := p.ex
  exact ⟨⟨xs, ys, hR.trans h1, hT.trans h2, Paired.mono (fun x ns h => h.same g) h3, dps_same g h4⟩, p.li, p.lr, p.rk, p.pl, p.sl, dp_same g p.ln⟩
def spPuts (K : PySem.W.Frag) : Sp := fun vs H Q _ => ∃ (tp ca : Addr), vs = [.ref tp] ∧ Tape K H tp ca ∧ ∀ H' v es, Rn K tp ca H H' → LineOK es → es.length ≤ 50 → Dp K (del H' tp) v (lineD es) → Q v H'
theorem place_uniq {rs : List (List Int)} {r : List Int} {p q : Nat} (h : PlaceIs rs r p) (g : PlaceIs rs r q) : p = q := (place_count h).trans (place_count g).symm
theorem put_ok {es : List (List Int × PyData)} {ns : List Int} {it : PyData} {p : Nat} (hl : LineOK es) (h9 : es.length ≤ 900) (hr : RankI ns) (hi : plainN 3 it) : plainN 6 (lineD (es.take p ++ [(ns, it)] ++ es.drop p)) := by
  refine plainN_mono 5 6 _ (by decide) (plain_D ?_ fun e he => ?_)
  · rw [List.length_append, List.length_append, List.length_take, List.length_drop, List.length_singleton]
    omega
  · rcases List.mem_append.mp he with he | he
    · rcases List.mem_append.mp he with he | he
      · exact hl.2.1 e (List.mem_of_mem_take he)
      · obtain rfl := List.mem_singleton.mp he
        exact ⟨hr, hi⟩
    · exact hl.2.1 e (List.mem_of_mem_drop he)
section
variable {P : Program} {w : World} {K : PySem.W.Frag} {mg : Str → Option Value} {base : Heap} {C U fI fG B S PA : Addr}
theorem ok_puts (D : DefAt K mg "_law_puts" s_law_puts ["tape"]) (T : Txt K mg) (GDraw : CalX P w K mg base CX0 1 "_law_draw" ["tape", "many"] (spDraw K)) (GRank : CalX P w K mg base CX0 2 "_law_rank" ["tape", "manner"] (spMkRank K)) (GItem : CalX P w K mg base CX0 2 "_law_item" ["tape", "manner", "number"] (spItem K))
    (GGreater : CalX P w K mg base CX0 1 "_law_greater" ["one", "other"] (spGreater K)) (GSame : CalX P w K mg base CX0 6 "_law_same" ["one", "other"] (spSame K 6)) (GAsk : CalX P w K mg base CX0 25 "_law_ask" ["word", "one", "two", "three"] (spAsk K 6)) (GSorted : CalX P w K mg base CX0 1 "_law_sorted" ["ranks", "things"] (spSorted K))
    (GIsLine : CalX P w K mg base CX0 3 "is_line" ["thing"] (spLine K)) : CalX P w K mg base CX0 26 "_law_puts" ["tape"] (spPuts K) := by
  refine D.ok sc_law_puts (fun vs H Q E h => ?_) (fun f cdv A outer s H vs Q E hr h => ?_)
  · obtain ⟨tp, ca, rfl, _⟩ := h
    rfl
  obtain ⟨tp, ca, rfl, hT, q⟩ := h
  refine ⟨_, (pss_cons (ps_set (i := 1) sc_law_puts.nd rfl (.inl rfl) (pe_ix ix_tup (pe_tup (pa_cons pe_int (pa_cons pe_int (pa_cons pe_int (pa_cons pe_int (pa_cons pe_int (pa_cons pe_int pa_nil))))))) (pe_c0 GDraw hr (by decide) rfl (pa_cons (pv 0) (pa_cons pe_int pa_nil))) (fun _ _ => rfl))) 
    (pss_cons (ps_set (i := 2) sc_law_puts.nd rfl (.inl rfl) (pe_c0 GDraw hr (by decide) rfl (pa_cons (pv 0) (pa_cons pe_int pa_nil)))) 
    (pss_cons (ps_set (i := 3) sc_law_puts.nd rfl (.inl rfl) (pe_c0 GDraw hr (by decide) rfl (pa_cons (pv 0) (pa_cons pe_int pa_nil)))) 
    (pss_cons (ps_conv (t' := tMany K) (ps_if (pt_cmpR op_eq (pe_c0 GDraw hr (by decide) rfl (pa_cons (pv 0) (pa_cons pe_int pa_nil))) pe_int (nomark _)) 
      (pss_one (ps_aug (i := 3) sc_law_puts.nd rfl (.inl rfl) (pe_op op_add pe_int (pe_c0 GDraw hr (by decide) rfl (pa_cons (pv 0) (pa_cons pe_int pa_nil)))) ip_add)) pss_nil) (by
        rintro D σ H ⟨tp, ca, m, pl, mn, rfl, hT, hm, k⟩
        refine ⟨_, rfl, tp, ca, 8, rfl, hT, by decide, by decide, fun H1 r hr1 R1 => ⟨rfl, _, rfl, ?_⟩⟩
        refine ite2 (fun _ => ?_) (fun _ => ?_)
        · refine ⟨_, rfl, _, rfl, tp, ca, 4, rfl, R1.b, by decide, by decide, fun H2 r2 hr2 R2 => ⟨_, _, rfl, rfl, _, _, rfl, rfl, ?_⟩⟩
          have e : ((mn : Nat) : Int) + (30 + (r2 : Nat)) = ((mn + (30 + r2) : Nat) : Int) := by omega
          have := k (mn + (30 + r2)) H2 (by omega) (R1.trans R2)
          unfold stQ at this
          rw [← e] at this
          exact this
        · exact k mn H1 (by omega) R1)) 
    (pss_cons (ps_set (i := 4) sc_law_puts.nd rfl (.inl rfl) (pe_tup pa_nil)) 
    (pss_cons (ps_set (i := 5) sc_law_puts.nd rfl (.inl rfl) (pe_lst pa_nil)) 
    (pss_cons (ps_set (i := 6) sc_law_puts.nd rfl (.inl rfl) (pe_lst pa_nil)) 
    (pss_cons (ps_for PassesOwn.never rfl (pi_range1 (by rfl) T.range (pa_cons (pv 3) pa_nil)) (pg_name (i := 7) sc_law_puts.nd rfl (Or.inl rfl)) 
      (pss_cons (ps_set (i := 8) sc_law_puts.nd rfl (.inr rfl) (pe_c0 GRank hr (by decide) rfl (pa_cons (pv 0) (pa_cons (pv 1) pa_nil)))) 
      (pss_cons (ps_set (i := 9) sc_law_puts.nd rfl (.inl rfl) (pe_c0 GItem hr (by decide) rfl (pa_cons (pv 0) (pa_cons (pv 2) (pa_cons (pv 7) pa_nil))))) 
      (pss_cons (ps_set (i := 11) sc_law_puts.nd rfl (.inl rfl) (pe_callB call_len_seq (by rfl) T.len PySem.boot_len (pa_cons (pe_lc (own := [("one", 10)]) (g := gName 10) (by rfl) sc_law_puts.nd (pi_list (pv 5)) (blkOk_by (own := [("one", 10)]) (N := N_law_puts) (sc := defScope s_law_puts) (by decide +kernel)) (fun _ _ _ _ _ => pg_name (i := 10) sc_law_puts.nd rfl (Or.inl rfl)) (fun _ _ _ _ _ => by exact (pts_one (pt_not (pt_val (pe_c0 GGreater hr (by decide) rfl (pa_cons (pv 10) (pa_cons (pv 8) pa_nil))))))) (fun _ _ _ _ _ => by exact (pv 10))) pa_nil))) 
      (pss_cons (ps_set (i := 12) sc_law_puts.nd rfl (.inl rfl) (pe_cmpR op_eq (pe_c0 GDraw hr (by decide) rfl (pa_cons (pv 0) (pa_cons pe_int pa_nil))) pe_int (nomark _))) 
      (pss_cons (ps_conv (t' := tAskP K) (ps_if (pt_not (pt_val (pe_c0 GSame hr (by decide) rfl (pa_cons (pe_c0 GAsk hr (by decide) rfl (pa_cons (pe_ifExp (pt_val (pv 12)) pe_str pe_str) (pa_cons (pv 4) (pa_cons (pv 8) (pa_cons pe_non pa_nil))))) (pa_cons (pv 11) pa_nil))))) 
        (pss_one (ps_ret pe_non)) pss_nil) (by
        rintro D σ H ⟨line, a, ns, es, nb, h4, h8, h11, h12, hx, hl, ha, hr2, k⟩
        refine ⟨_, h12, nb, rfl, ?_⟩
        cases nb with
        | true =>
          refine iteT ?_
          exact ⟨_, h4, _, h8, _, _, _, _, rfl, .inl ⟨.inr rfl, ask_place hx hl ha hr2 fun H1 s1 => ⟨_, h11, _, _, _, rfl, .int _, .int _, trivial, fun H2 s2 => ⟨_, rfl, iteF (k H2 (s1.trans s2))⟩⟩⟩⟩
        | false =>
          refine iteF ?_
          exact ⟨_, h4, _, h8, _, _, _, _, rfl, .inl ⟨.inl rfl, ask_place hx hl ha hr2 fun H1 s1 => ⟨_, h11, _, _, _, rfl, .int _, .int _, trivial, fun H2 s2 => ⟨_, rfl, iteF (k H2 (s1.trans s2))⟩⟩⟩⟩)) 
      (pss_cons (ps_conv (t' := tAskE K) (ps_set (i := 13) sc_law_puts.nd rfl (.inl rfl) (pe_c0 GAsk hr (by decide) rfl (pa_cons (pe_ifExp (pt_val (pv 12)) pe_str pe_str) (pa_cons (pv 4) (pa_cons (pv 8) (pa_cons (pv 9) pa_nil)))))) (by
        rintro D σ H ⟨line, z, a, ns, es, it, nb, h4, h8, h9, h12, hx, hl, hl2, ha, hr2, hz, hi, k⟩
        refine ⟨_, h12, nb, rfl, ?_⟩
        cases nb with
        | true =>
          refine iteT ?_
          exact ⟨_, h4, _, h8, _, h9, _, _, _, _, rfl, .inr (.inl ⟨.inl rfl, ask_entry hx hl hl2 ha hr2 hz hi fun p hp v H' s f => k p hp v H' s f⟩)⟩
        | false =>
          refine iteF ?_
          exact ⟨_, h4, _, h8, _, h9, _, _, _, _, rfl, .inr (.inl ⟨.inr rfl, ask_entry hx hl hl2 ha hr2 hz hi fun p hp v H' s f => k p hp v H' s f⟩)⟩)) 
      (pss_cons (ps_conv (t' := tSrtS K) (ps_if (PW.pt (pw_and (pt_cmpR op_lt (pv 3) pe_int (nomark _)) (pw_and1 (pt_not (pt_val (pe_c0 GSame hr (by decide) rfl (pa_cons (pv 4) (pa_cons (pe_c0 GSorted hr (by decide) rfl (pa_cons (pv 5) (pa_cons (pv 6) pa_nil))) pa_nil)))))))) 
        (pss_one (ps_ret pe_non)) pss_nil) (by
        rintro D σ H ⟨mn, v, R, Th, rks, its, L, h3, h4, h5, h6, tw, sl, hv, k⟩
        refine ⟨_, h3, _, _, rfl, rfl, _, rfl, ?_⟩
        refine ite2 (fun _ => ?_) (fun _ => ?_)
        · obtain ⟨xs, ys, g1, g2, g3, g4⟩ := tw.ex
          refine ⟨_, h4, _, h5, _, h6, R, Th, xs, ys, rks, its, rfl, SqL.of g1, SqL.of g2, g3, g4, tw.li, tw.lr, fun L' v' H1 s1 sl' hd => ?_⟩
          obtain rfl := sl.uniq sl'
          exact ⟨_, _, _, rfl, dp_same s1 hv, hd, sl_plain tw sl, fun H2 s2 => ⟨_, rfl, iteF (k H2 (s1.trans s2))⟩⟩
        · exact k H same_refl)) 
      (pss_cons (ps_expr (pe_bm PySem.F.plainAttrs_list PySem.F.slot_list_append PySem.F.type_list_append mt_append (pv 5) (pa_cons (pv 8) pa_nil))) 
      (pss_cons (ps_expr (pe_bm PySem.F.plainAttrs_list PySem.F.slot_list_append PySem.F.type_list_append mt_append (pv 6) (pa_cons (pv 9) pa_nil))) 
      (pss_cons (ps_conv (t' := tSrtT K) (ps_if (PW.pt (pw_or (pt_not (pt_val (pe_c0 GSame hr (by decide) rfl (pa_cons (pv 13) (pa_cons (pe_c0 GSorted hr (by decide) rfl (pa_cons (pv 5) (pa_cons (pv 6) pa_nil))) pa_nil))))) (pw_or1 (pt_cmpR op_isnot_bl (pe_c0 GIsLine hr (by decide) rfl (pa_cons (pv 13) pa_nil)) pe_bl (nomark _))))) 
        (pss_one (ps_ret pe_non)) pss_nil) (by
        rintro D σ H ⟨v, R, Th, rks, its, L, h4, h5, h6, tw, sl, hv, k⟩
        obtain ⟨xs, ys, g1, g2, g3, g4⟩ := tw.ex
        refine ⟨_, h4, _, h5, _, h6, R, Th, xs, ys, rks, its, rfl, SqL.of g1, SqL.of g2, g3, g4, tw.li, tw.lr, fun L' v' H1 s1 sl' hd => ?_⟩
        obtain rfl := sl.uniq sl'
        refine ⟨_, _, _, rfl, dp_same s1 hv, hd, sl_plain tw sl, fun H2 s2 => ⟨_, rfl, iteF ?_⟩⟩
        refine ⟨_, h4, _, _, rfl, dp_same (s1.trans s2) hv, fun H3 s3 => ⟨_, _, rfl, rfl, _, rfl, ?_⟩⟩
        rw [(sl_ok tw sl).2.2]
        exact iteF (k H3 (s1.trans (s2.trans s3))))) 
      (pss_cons (ps_conv (t' := tAgain K) (ps_if (PW.pt (pw_and (pt_cmpR op_lt (pv 3) pe_int (nomark _)) (pw_and1 (pt_not (pt_val (pe_c0 GSame hr (by decide) rfl (pa_cons (pe_c0 GAsk hr (by decide) rfl (pa_cons pe_str (pa_cons (pv 4) (pa_cons (pv 8) (pa_cons (pv 9) pa_nil))))) (pa_cons (pv 13) pa_nil)))))))) 
        (pss_one (ps_ret pe_non)) pss_nil) (by
        rintro D σ H ⟨mn, line, z, told, a, ns, es, it, p, h3, h4, h8, h9, h13, hx, hl, hl2, ha, hr2, hz, hi, hp, hd, k⟩
        refine ⟨_, h3, _, _, rfl, rfl, _, rfl, ?_⟩
        refine ite2 (fun _ => ?_) (fun _ => ?_)
        · refine ⟨_, h4, _, h8, _, h9, _, _, _, _, rfl, .inr (.inl ⟨.inl rfl, ask_entry hx hl hl2 ha hr2 hz hi fun p' hp' v H1 s1 f => ?_⟩)⟩
          obtain rfl := place_uniq hp hp'
          exact ⟨_, h13, _, _, _, rfl, f.dp, dp_same s1 hd, put_ok hl hl2 hr2 hi, fun H2 s2 => ⟨_, rfl, iteF (k H2 (s1.trans s2))⟩⟩
        · exact k H same_refl)) 
      (pss_one (ps_set (i := 4) sc_law_puts.nd rfl (.inl rfl) (pv 13))))))))))))))) 
    (pss_one (ps_ret (pv 4))))))))))), ?_⟩
  have hmt : ∀ r : Nat, r < 6 → ∃ m : Nat, ([V.int 0, .int 0, .int 1, .int 1, .int 2, .int 3] : List V)[r]? = some (.int (m : Nat)) := fun r hr => match r, hr with
    | 0, _ => ⟨0, rfl⟩ | 1, _ => ⟨0, rfl⟩ | 2, _ => ⟨1, rfl⟩ | 3, _ => ⟨1, rfl⟩ | 4, _ => ⟨2, rfl⟩ | 5, _ => ⟨3, rfl⟩
  refine ⟨(by show 6 ≤ sizeLine; decide), fun t0 ht0 => ?_⟩
  have Ra := Rn.of hT (same_new ht0 : Same H (upd H t0 (.tup [V.int 0, .int 0, .int 1, .int 1, .int 2, .int 3])))
  have hM : (upd H t0 (.tup [V.int 0, .int 0, .int 1, .int 1, .int 2, .int 3])) t0 = some (.tup [V.int 0, .int 0, .int 1, .int 1, .int 2, .int 3]) := upd_same
  revert Ra hM
  generalize upd H t0 (.tup [V.int 0, .int 0, .int 1, .int 1, .int 2, .int 3]) = Ha
  intro Ra hM
  refine ⟨_, rfl, tp, ca, 6, rfl, Ra.b, by decide, by decide, fun H1 r0 hr0 R1 => ?_⟩
  obtain ⟨m, hm⟩ := hmt r0 hr0
  refine ⟨t0, _, _, _, rfl, rfl, SqT.of (R1.at hM (hT.new ht0)), atI_nat hm, ?_⟩
  refine ⟨_, rfl, tp, ca, 3, rfl, R1.b, by decide, by decide, fun H2 pl hpl R2 => ?_⟩
  refine ⟨_, rfl, tp, ca, 13, rfl, R2.b, by decide, by decide, fun H3 mn0 hmn0 R3 => ?_⟩
  refine ⟨tp, ca, m, pl, mn0, rfl, R3.b, by omega, fun mn H4 hmn R4 => ?_⟩
  have Rb := Ra.trans (R1.trans (R2.trans (R3.trans R4)))
  refine ⟨(by show 0 ≤ sizeLine; decide), fun l0 hl0 => ?_⟩
  have s5 : Same H4 (upd H4 l0 (.tup [])) := same_new hl0
  have h5 : (upd H4 l0 (.tup [])) l0 = some (.tup []) := upd_same
  revert s5 h5
  generalize upd H4 l0 (.tup []) = H5
  intro s5 h5
  refine ⟨(by show 0 ≤ sizeLine; decide), fun R hR => ?_⟩
  have s6 : Same H5 (upd H5 R (.lst [])) := same_new hR
  have h6 : (upd H5 R (.lst [])) R = some (.lst []) := upd_same
  revert s6 h6
  generalize upd H5 R (.lst []) = H6
  intro s6 h6
  refine ⟨(by show 0 ≤ sizeLine; decide), fun Th hTh => ?_⟩
  have s7 : Same H6 (upd H6 Th (.lst [])) := same_new hTh
  have h7 : (upd H6 Th (.lst [])) Th = some (.lst []) := upd_same
  revert s7 h7
  generalize upd H6 Th (.lst []) = H7
  intro s7 h7
  have Rc := ((Rb.same s5).same s6).same s7
  have hRt : R ≠ tp := (Rb.same s5).b.new hR
  have hTt : Th ≠ tp := ((Rb.same s5).same s6).b.new hTh
  have hRT : R ≠ Th := fun z => by rw [← z, h6] at hTh; exact nomatch hTh
  have hRn : H R = none := Rb.free (s5.free hR)
  have hTn : H Th = none := Rb.free (s5.free (s6.free hTh))
  have hl0S : l0 ∉ [tp, R, Th] := by
    have a1 : l0 ≠ tp := Rb.b.new hl0
    have a2 : l0 ≠ R := fun z => by rw [← z, h5] at hR; exact nomatch hR
    have a3 : l0 ≠ Th := fun z => by rw [← z, s6 _ _ h5] at hTh; exact nomatch hTh
    simp [a1, a2, a3]
  have h7l := s7 _ _ (s6 _ _ h5)
  have h7R := s7 _ _ h6
  have P0 : PI K H7 tp R Th (.ref l0) [] [] [] := ⟨⟨[], [], h7R, h7, .nil, .nil⟩, rfl, by decide, (fun r h => nomatch h), (fun r h => nomatch h), SL.nil, .tup (SqT.of (by rw [offS_ne hl0S]; exact h7l)) .nil⟩
  refine ⟨_, rfl, _, rfl, by omega, by omega, for_range (lo := 0) (n := mn) (fun i σ H' => ∃ line rks its L o7 o8 o9 o10 o11 o12 o13, σ = stP tp m pl mn line R Th o7 o8 o9 o10 o11 o12 o13 ∧ Rn K tp ca H H' ∧ PI K H' tp R Th line rks its L ∧ rks.length = i)
    ⟨.ref l0, [], [], [], _, _, _, _, _, _, _, rfl, Rc, P0, rfl⟩ ?_ ?_⟩
  · rintro i σ H8 hi ⟨line, rks, its, L, o7, o8, o9, o10, o11, o12, o13, rfl, R8, P8, hri⟩
    have inS : tp ∈ [tp, R, Th] := by simp
    have notS : ∀ {p : Addr} {H' : Hp}, Rn K tp ca H H' → H' R ≠ none → H' Th ≠ none → H' p = none → p ∉ [tp, R, Th] := fun {p H'} r e1 e2 e3 => by
      have a1 : p ≠ tp := r.b.new e3
      have a2 : p ≠ R := fun z => e1 (by rw [← z]; exact e3)
      have a3 : p ≠ Th := fun z => e2 (by rw [← z]; exact e3)
      simp [a1, a2, a3]
    obtain ⟨xs8, ys8, h8R, h8T, _, _⟩ := P8.ex
    -- rank, thing
    refine ⟨_, rfl, _, rfl, tp, ca, m, rfl, R8.b, fun H9 a ns R9 hns han ha => ?_⟩
    have e9R := R9.at h8R hRt
    have e9T := R9.at h8T hTt
    have P9 := P8.go (GoS.rn R9 inS) (e9R.trans h8R.symm) (e9T.trans h8T.symm)
    have haS : a ∉ [tp, R, Th] := notS R8 (by rw [h8R]; simp) (by rw [h8T]; simp) han
    have hat : a ≠ tp := fun z => haS (by simp [z])
    refine ⟨_, rfl, _, rfl, _, rfl, tp, ca, pl, _, rfl, R9.b, fun H10 z it R10 hit fz => ?_⟩
    have e10R := R10.at e9R hRt
    have e10T := R10.at e9T hTt
    have P10 := P9.go (GoS.rn R10 inS) (e10R.trans e9R.symm) (e10T.trans e9T.symm)
    have hz : Dp K (offS [tp, R, Th] H10) z it := fz.offS fun b hb => by
      simp only [List.mem_cons, List.not_mem_nil, or_false] at hb
      rcases hb with rfl | rfl | rfl
      · obtain ⟨u, e⟩ := R9.b.some
        rw [e]; simp
      · rw [e9R]; simp
      · rw [e9T]; simp
    have ha10 : H10 a = some (.tup (ns.map V.int)) := R10.at ha hat
    have Rd := R8.trans (R9.trans R10)
    -- due
    obtain ⟨xs, ys, h10R, h10T, hxs, hys⟩ := P10.ex
    have hxl := Paired.len hxs
    have hlr := P10.lr
    refine ⟨_, rfl, R, rfl, ⟨_, SqL.of h10R⟩, fun Dl hDl => lc_list (K := K) (a := R) (xs := xs) (fun j H' => Same H10 H' ∧ ∃ acc, H' Dl = some (.lst acc) ∧ acc.length = ((rks.take j).filter fun s => !HT.lexLt ns s).length ∧ acc.length ≤ j) ⟨same_new hDl, [], upd_same, rfl, Nat.zero_le _⟩ (fun j H' _ ⟨sm, _⟩ => SqL.of (sm _ _ h10R)) ?_ ?_⟩
    · rintro j y H' hj ⟨sm, acc, hA, hal, haj⟩
      have hjl := (List.getElem?_eq_some_iff.mp hj).1
      obtain ⟨nj, hnj⟩ : ∃ nj, rks[j]? = some nj := ⟨_, List.getElem?_eq_getElem (by omega)⟩
      obtain ⟨y', hy', b, rfl, hb⟩ := Paired.at hxs hnj
      rw [hj] at hy'
      obtain rfl := Option.some.inj hy'
      have hb' := same_sqt sm (same_sqt offS_same hb)
      have e1 := (P10.rk nj (List.mem_of_getElem? hnj)).1
      have e2 := hns.1
      refine ⟨rfl, ?_⟩
      refine ⟨_, rfl, _, rfl, b, a, nj, ns, rfl, hb', SqT.of (sm _ _ ha10), by omega, by omega, ⟨_, rfl, ?_⟩⟩
      have et : (rks.take (j + 1)).filter (fun s => !HT.lexLt ns s) = (rks.take j).filter (fun s => !HT.lexLt ns s) ++ [nj].filter (fun s => !HT.lexLt ns s) := by
        rw [List.take_add_one, hnj, List.filter_append]
        rfl
      refine ite2 (fun c => ?_) (fun c => ?_)
      · refine ⟨_, rfl, acc, hA, small1000 (by omega), same_mut sm hDl, acc ++ [_], upd_same, ?_, by rw [List.length_append]; show acc.length + 1 ≤ j + 1; omega⟩
        rw [et, List.length_append, List.length_append, hal, List.filter_cons_of_pos (p := fun s => !HT.lexLt ns s) c]
        rfl
      · refine ⟨sm, acc, hA, ?_, by omega⟩
        rw [et, List.length_append, hal, List.filter_cons_of_neg (p := fun s => !HT.lexLt ns s) c]
        rfl
    rintro H11 ⟨s11, acc, hA, hal, haj⟩
    rw [hxl, List.take_length] at hal
    refine ⟨Dl, acc, rfl, .inl (SqL.of hA), ?_⟩
    have P11 := P10.go (GoS.of s11) ((s11 _ _ h10R).trans h10R.symm) ((s11 _ _ h10T).trans h10T.symm)
    have Re := Rd.same s11
    have ha11 := s11 _ _ ha10
    have hz11 := dp_same (GoS.of s11) hz
    have hcnt : acc.length = (((L.map strip).map (·.1)).filter fun s => !HT.lexLt ns s).length := by
      rw [hal, strip_ranks]
      exact ((P11.sl.ranks rfl).filter _).length_eq.symm
    have hok : LineOK (L.map strip) := sl_ok P11.two P11.sl
    have hLl : (L.map strip).length ≤ 45 := by
      rw [List.length_map, P11.sl.len]
      exact P11.lr
    -- named
    refine ⟨_, rfl, tp, ca, 3, rfl, Re.b, by decide, by decide, fun H12 r12 hr12 R12 => ⟨rfl, ?_⟩⟩
    have e12R := R12.at (s11 _ _ h10R) hRt
    have e12T := R12.at (s11 _ _ h10T) hTt
    have P12 := P11.go (GoS.rn R12 inS) (e12R.trans (s11 _ _ h10R).symm) (e12T.trans (s11 _ _ h10T).symm)
    have ha12 := R12.at ha11 hat
    have hz12 := dp_same (GoS.rn R12 inS) hz11
    refine ⟨line, a, ns, L.map strip, _, rfl, rfl, ?_, rfl, dp_onS P12.ln, hok, SqT.of ha12, hns, fun H13 s13 => ?_⟩
    · show some (some (V.int (acc.length : Nat))) = _
      rw [hcnt]
    have P13 := P12.go (GoS.of s13) ((s13 _ _ e12R).trans e12R.symm) ((s13 _ _ e12T).trans e12T.symm)
    have hz13 := dp_same (GoS.of s13) hz12
    refine ⟨line, z, a, ns, L.map strip, it, _, rfl, rfl, rfl, rfl, dp_onS P13.ln, hok, by omega, SqT.of (s13 _ _ ha12), hns, dp_onS hz13, hit, fun p hp told H14 s14 f14 => ?_⟩
    have e13R := s13 _ _ e12R
    have e13T := s13 _ _ e12T
    have Rf := (Re.trans R12).same s13
    have P14 := P13.go (GoS.of s14) ((s14 _ _ e13R).trans e13R.symm) ((s14 _ _ e13T).trans e13T.symm)
    have hz14 := dp_same (GoS.of s14) hz13
    have htold : Dp K (offS [tp, R, Th] H14) told (lineD ((L.map strip).take p ++ [(ns, it)] ++ (L.map strip).drop p)) := f14.offS fun b hb => by
      simp only [List.mem_cons, List.not_mem_nil, or_false] at hb
      rcases hb with rfl | rfl | rfl
      · obtain ⟨u, e⟩ := Rf.b.some
        rw [e]; simp
      · rw [e13R]; simp
      · rw [e13T]; simp
    refine ⟨(mn : Nat), line, R, Th, rks, its, L, rfl, rfl, rfl, rfl, P14.two, P14.sl, dp_onS P14.ln, fun H15 s15 => ?_⟩
    have e14R := s14 _ _ e13R
    have e14T := s14 _ _ e13T
    have P15 := P14.go (GoS.of s15) ((s15 _ _ e14R).trans e14R.symm) ((s15 _ _ e14T).trans e14T.symm)
    obtain ⟨xs15, ys15, h15R, h15T, hx15, hy15⟩ := P15.ex
    have ha15 := s15 _ _ (s14 _ _ (s13 _ _ ha12))
    have hz15 := dp_same (GoS.of s15) hz14
    have ht15 := dp_same (GoS.of s15) htold
    have hxl15 := Paired.len hx15
    have hyl15 := dps_len hy15
    have li15 := P15.li
    -- appended
    refine ⟨_, rfl, .inl ⟨rfl, _, SqL.of h15R⟩, _, rfl, R, xs15, _, rfl, rfl, h15R, small1000 (by omega), ?_⟩
    refine ⟨_, rfl, .inl ⟨rfl, _, SqL.of (by rw [upd_ne (Ne.symm hRT)]; exact h15T)⟩, _, rfl, Th, ys15, _, rfl, rfl, (by rw [upd_ne (Ne.symm hRT)]; exact h15T), small1000 (by omega), ?_⟩
    have g16 : GoS [tp, R, Th] H15 (upd (upd H15 R (.lst (xs15 ++ [.ref a]))) Th (.lst (ys15 ++ [z]))) := ((GoS.refl.upd (by simp)).upd (by simp))
    have Rg := (((Rf.same s14).same s15).mut hRn (o := .lst (xs15 ++ [.ref a]))).mut hTn (o := .lst (ys15 ++ [z]))
    have e16R : (upd (upd H15 R (.lst (xs15 ++ [.ref a]))) Th (.lst (ys15 ++ [z]))) R = some (.lst (xs15 ++ [.ref a])) := by rw [upd_ne hRT, upd_same]
    have e16T : (upd (upd H15 R (.lst (xs15 ++ [.ref a]))) Th (.lst (ys15 ++ [z]))) Th = some (.lst (ys15 ++ [z])) := upd_same
    have a16 : (upd (upd H15 R (.lst (xs15 ++ [.ref a]))) Th (.lst (ys15 ++ [z]))) a = some (.tup (ns.map V.int)) := by
      rw [upd_ne (fun y => haS (by simp [y])), upd_ne (fun y => haS (by simp [y]))]
      exact ha15
    revert g16 Rg e16R e16T a16
    generalize upd (upd H15 R (.lst (xs15 ++ [.ref a]))) Th (.lst (ys15 ++ [z])) = H16
    intro g16 Rg e16R e16T a16
    have hp' : PlaceIs (L.map (·.1.1)) ns p := by rw [strip_ranks] at hp; exact hp
    have eL : (L.take p ++ [((ns, ((rks.length : Nat) : Int)), it)] ++ L.drop p).map strip = (L.map strip).take p ++ [(ns, it)] ++ (L.map strip).drop p := by
      rw [List.map_append, List.map_append, List.map_take, List.map_drop]
      rfl
    have sl16 : SL (rks ++ [ns]) (its ++ [it]) (rks ++ [ns]).length (L.take p ++ [((ns, ((rks.length : Nat) : Int)), it)] ++ L.drop p) := by
      rw [List.length_append]
      exact P15.sl.put rfl P15.li hp'
    have P16 : PI K H16 tp R Th told (rks ++ [ns]) (its ++ [it]) (L.take p ++ [((ns, ((rks.length : Nat) : Int)), it)] ++ L.drop p) := by
      refine ⟨⟨_, _, e16R, e16T, Paired.app (Paired.mono (fun x ns h => h.same g16) hx15) (.cons ⟨a, rfl, SqT.of (by rw [offS_ne haS]; exact a16)⟩ .nil), dps_app (dps_same g16 hy15) (.cons (dp_same g16 hz15) .nil)⟩, ?_, ?_, fun r h => ?_, fun d h => ?_, sl16, ?_⟩
      · rw [List.length_append, List.length_append, li15]
        rfl
      · rw [List.length_append]
        show rks.length + 1 ≤ 45
        omega
      · rcases List.mem_append.mp h with h | h
        · exact P15.rk r h
        · obtain rfl := List.mem_singleton.mp h
          exact hns
      · rcases List.mem_append.mp h with h | h
        · exact P15.pl d h
        · obtain rfl := List.mem_singleton.mp h
          exact hit
      · rw [eL]
        exact dp_same g16 ht15
    refine ⟨told, R, Th, _, _, _, rfl, rfl, rfl, P16.two, P16.sl, dp_onS P16.ln, fun H17 s17 => ?_⟩
    have P17 := P16.go (GoS.of s17) ((s17 _ _ e16R).trans e16R.symm) ((s17 _ _ e16T).trans e16T.symm)
    have ln17 : Dp K (offS [tp, R, Th] H17) line (lineD (L.map strip)) := dp_same (GoS.of s17) (dp_same g16 P15.ln)
    have t17 := P17.ln
    rw [eL] at t17
    refine ⟨(mn : Nat), line, z, told, a, ns, L.map strip, it, p, rfl, rfl, rfl, rfl, rfl, dp_onS ln17, hok, by omega, SqT.of (s17 _ _ a16), hns, dp_onS (dp_same (GoS.of s17) (dp_same g16 hz15)), hit, hp, dp_onS t17, fun H18 s18 => ?_⟩
    have e17R := s17 _ _ e16R
    have e17T := s17 _ _ e16T
    have P18 := P17.go (GoS.of s18) ((s18 _ _ e17R).trans e17R.symm) ((s18 _ _ e17T).trans e17T.symm)
    refine ⟨_, rfl, told, _, _, _, _, _, _, _, _, _, _, rfl, (Rg.same s17).same s18, P18, ?_⟩
    rw [List.length_append, hri]
    rfl
  · rintro σ H' ⟨line, rks, its, L, o7, o8, o9, o10, o11, o12, o13, rfl, R8, P8, hri⟩
    refine ⟨_, rfl, q H' line (L.map strip) R8 (sl_ok P8.two P8.sl) ?_ ?_⟩
    · rw [List.length_map, P8.sl.len]
      have := P8.lr
      omega
    · refine dp_same (fun x o h => ?_) P8.ln
      obtain ⟨h1, h2⟩ := offS_some h
      rw [del_ne (fun z => h1 (by simp [z]))]
      exact h2

end
end K23
set_option Elab.async false
set_option linter.all false
set_option maxRecDepth 100000
set_option maxHeartbeats 4000000
namespace K23
open PySem PySem.Spec PyProof.Rows L2 Dt K23S
/-! ### expressions whose values are data -/
def InD (S : List Addr) (H : Hp) : Prop := ∀ a ∈ S, H a ≠ none
theorem InD.same {S : List Addr} {H H' : Hp} (h : InD S H) (s : Same H H') : InD S H' := fun a ha e => h a ha (s.free e)
theorem InD.new {S : List Addr} {H : Hp} {p : Addr} (h : InD S H) (hp : H p = none) : p ∉ S := fun z => h p z hp
theorem InD.rn {K : PySem.W.Frag} {S : List Addr} {tp ca : Addr} {H H' : Hp} (h : InD S H) (r : Rn K tp ca H H') : InD S H' := fun a ha e => h a ha (r.free e)
theorem Tape.inD {K : PySem.W.Frag} {H : Hp} {tp ca : Addr} (t : Tape K H tp ca) : InD [tp] H := fun a ha => by
  obtain rfl := List.mem_singleton.mp ha
  obtain ⟨u, e⟩ := t.some
  rw [e]
  simp
theorem off_del {tp : Addr} {H : Hp} : offS [tp] H = del H tp := by
  funext b
  unfold offS del
  simp
def PV (K : PySem.W.Frag) (S : List Addr) (te : TE) (σ : L2.St) (H : Hp) (d : PyData) : Prop := ∀ H1, Same H H1 → ∀ Q : VK, (∀ v H2, Same H1 H2 → Dp K (offS S H2) v d → Q v H2) → te σ H1 Q
def PVs (K : PySem.W.Frag) (S : List Addr) (ta : TA) (σ : L2.St) (H : Hp) (ds : List PyData) : Prop := ∀ H1, Same H H1 → ∀ Q : List V → Hp → Prop, (∀ vs H2, Same H1 H2 → DpAll K (offS S H2) vs ds → Q vs H2) → ta σ H1 Q
/-- a number that is found without a change -/
def PN (te : TE) (σ : L2.St) (k : Int) : Prop := ∀ H Q, Q (.int k) H → te σ H Q
section
variable {K : PySem.W.Frag} {S : List Addr} {σ : L2.St} {H : Hp} {te tf : TE} {ta : TA} {d : PyData} {ds es : List PyData}
theorem pv_use {Q : VK} (h : PV K S te σ H d) (q : ∀ v H', Same H H' → Dp K (offS S H') v d → Q v H') : te σ H Q := h H same_refl Q q
theorem pn_c {k : Int} : PN (tC (.int k)) σ k := fun _ _ q => q
theorem pn_v {i : Nat} {k : Int} (h : σ[i]? = some (some (.int k))) : PN (tVar i) σ k := fun _ _ q => ⟨_, h, q⟩
theorem pn_add {k m : Int} (a : PN te σ k) (b : PN tf σ m) : PN (tOp (rI0 fun i j => .int (i + j)) te tf) σ (k + m) := fun H Q q => a H _ (b H _ ⟨k, m, rfl, rfl, q⟩)
theorem pn_sub {k m : Int} (a : PN te σ k) (b : PN tf σ m) : PN (tOp (rI0 fun i j => .int (i - j)) te tf) σ (k - m) := fun H Q q => a H _ (b H _ ⟨k, m, rfl, rfl, q⟩)
theorem pn_neg {k : Int} (a : PN te σ k) : PN (tUn (rU fun i => .int (-i)) te) σ (-k) := fun H Q q => a H _ ⟨k, rfl, q⟩
theorem pv_var {i : Nat} {v : V} (h : σ[i]? = some (some v)) (hd : Dp K (offS S H) v d) : PV K S (tVar i) σ H d := fun H1 s Q q => ⟨v, h, q v H1 same_refl (dp_same (GoS.of s) hd)⟩
theorem pv_n {k : Int} (h : PN te σ k) : PV K S te σ H (.int k) := fun H1 s Q q => h H1 Q (q _ H1 same_refl (.int k))
theorem pv_int {i : Int} : PV K S (tC (.int i)) σ H (.int i) := fun H1 s Q q => q _ H1 same_refl (.int i)
theorem pv_bl {b : Bool} : PV K S (tC (.bl b)) σ H (.bool b) := fun H1 s Q q => q _ H1 same_refl (.bl b)
theorem pv_non : PV K S (tC .non) σ H .none := fun H1 s Q q => q _ H1 same_refl .non
theorem pv_str {z : Str} : PV K S (tC (.str z)) σ H (.str z) := fun H1 s Q q => q _ H1 same_refl (.str z)
theorem pvs_nil : PVs K S tNil σ H [] := fun H1 s Q q => q [] H1 same_refl .nil
theorem pvs_cons (h : PV K S te σ H d) (hs : PVs K S ta σ H ds) : PVs K S (tCons te ta) σ H (d :: ds) := fun H1 s Q q => h H1 s _ fun v H2 s2 h2 => hs H2 (s.trans s2) _ fun vs H3 s3 h3 => q (v :: vs) H3 (s2.trans s3) (.cons (dp_same (GoS.of s3) h2) h3)
theorem sqt_offS {H : Hp} {p : Addr} {xs : List V} (h : H p = some (.tup xs)) (n : p ∉ S) : SqT K (offS S H) p xs := SqT.of (by rw [offS_ne n]; exact h)
theorem sql_offS {H : Hp} {p : Addr} {xs : List V} (h : H p = some (.lst xs)) (n : p ∉ S) : SqL K (offS S H) p xs := SqL.of (by rw [offS_ne n]; exact h)
theorem pv_tup (hS : InD S H) (h : PVs K S ta σ H ds) (hl : ds.length ≤ 1000) : PV K S (tTup ta) σ H (.tuple ds) := fun H1 s Q q => h H1 s _ fun vs H2 s2 h2 => by
  have hl1 := dps_len h2
  have hsl := sizeLine_eq
  exact ⟨by omega, fun p hp => q _ _ (s2.trans (same_new hp)) (.tup (sqt_offS upd_same (((hS.same s).same s2).new hp)) (dps_same (GoS.of (same_new hp)) h2))⟩
theorem pv_lst (hS : InD S H) (h : PVs K S ta σ H ds) (hl : ds.length ≤ 1000) : PV K S (tLst ta) σ H (.list ds) := fun H1 s Q q => h H1 s _ fun vs H2 s2 h2 => by
  have hl1 := dps_len h2
  have hsl := sizeLine_eq
  exact ⟨by omega, fun p hp => q _ _ (s2.trans (same_new hp)) (.lst (sql_offS upd_same (((hS.same s).same s2).new hp)) (dps_same (GoS.of (same_new hp)) h2))⟩
theorem pv_cat (hS : InD S H) (ha : PV K S te σ H (.tuple ds)) (hb : PV K S tf σ H (.tuple es)) (hl : ds.length + es.length ≤ 10000) : PV K S (tOp (rCatA K) te tf) σ H (.tuple (ds ++ es)) := fun H1 s Q q => ha H1 s _ fun v1 H2 s2 h2 => hb H2 (s.trans s2) _ fun v2 H3 s3 h3 => by
  have h2' := dp_same (GoS.of s3) h2
  cases h2' with
  | @tup a xs _ hs1 ha1 =>
  cases h3 with
  | @tup b ys _ hs3 ha3 =>
  have l1 := dps_len ha1
  have l2 := dps_len ha3
  have hsl := sizeLine_eq
  have hd3 : DpAll K (offS S H3) (xs ++ ys) (ds ++ es) := dps_app ha1 ha3
  refine ⟨a, b, xs, ys, rfl, rfl, same_sqt offS_same hs1, same_sqt offS_same hs3, by omega, fun e => ?_, fun _ e => ?_, fun _ _ p hp => ?_⟩
  · subst e
    exact q _ H3 (s2.trans s3) (.tup hs3 hd3)
  · subst e
    rw [List.append_nil] at hd3
    exact q _ H3 (s2.trans s3) (.tup hs1 hd3)
  · exact q _ _ (s2.trans (s3.trans (same_new hp))) (.tup (sqt_offS upd_same ((((hS.same s).same s2).same s3).new hp)) (dps_same (GoS.of (same_new hp)) hd3))
theorem rSlA_off (hS : InD S H) {a : Addr} {xs : List V} {lo hi : Option Int} {Q : VK} (ha : SqT K (offS S H) a xs) (h : ∀ tp H2, Same H H2 → SqT K (offS S H2) tp (cutV xs lo hi) → Q (.ref tp) H2) : rSlA K (.ref a) lo hi H Q := by
  refine ⟨a, xs, rfl, same_sqt offS_same ha, fun e => ?_, fun e p hp => h p _ (same_new hp) (sqt_offS upd_same (hS.new hp))⟩
  refine h a H (fun _ _ z => z) ?_
  have : cutV xs lo hi = xs := by
    unfold cutV
    rw [e.1, e.2, List.drop_zero, Nat.sub_zero, List.take_length]
  rw [this]
  exact ha
theorem pv_take (hS : InD S H) (ha : PV K S te σ H (.tuple ds)) {k : Nat} (hk : PN tf σ (k : Nat)) : PV K S (tSl (rSlA K) te tNoPart (tPart tf)) σ H (.tuple (ds.take k)) := fun H1 s Q q => ha H1 s _ fun v1 H2 s2 h2 => by
  cases h2 with
  | @tup a xs _ hs1 ha1 =>
  refine hk H2 _ ⟨_, rfl, rSlA_off ((hS.same s).same s2) hs1 fun t H3 s3 ht => ?_⟩
  rw [cut_take] at ht
  exact q _ H3 (s2.trans s3) (.tup ht (dps_take k (dps_same (GoS.of s3) ha1)))
theorem pv_drop (hS : InD S H) (ha : PV K S te σ H (.tuple ds)) {k : Nat} (hk : PN tf σ (k : Nat)) : PV K S (tSl (rSlA K) te (tPart tf) tNoPart) σ H (.tuple (ds.drop k)) := fun H1 s Q q => ha H1 s _ fun v1 H2 s2 h2 => by
  cases h2 with
  | @tup a xs _ hs1 ha1 =>
  refine hk H2 _ ⟨_, rfl, rSlA_off ((hS.same s).same s2) hs1 fun t H3 s3 ht => ?_⟩
  rw [cut_drop] at ht
  exact q _ H3 (s2.trans s3) (.tup ht (dps_drop k (dps_same (GoS.of s3) ha1)))
theorem pv_ix (ha : PV K S te σ H (.tuple ds)) {k : Nat} (hk : PN tf σ (k : Nat)) (hd : ds[k]? = some d) : PV K S (tOp (rIxT K) te tf) σ H d := fun H1 s Q q => ha H1 s _ fun v1 H2 s2 h2 => by
  cases h2 with
  | @tup a xs _ hs1 ha1 =>
  have hl := dps_len ha1
  have hkl := (List.getElem?_eq_some_iff.mp hd).1
  have hx : xs[k]? = some (xs[k]'(by omega)) := List.getElem?_eq_getElem (by omega)
  obtain ⟨d', e1, e2⟩ := dps_at ha1 hx
  rw [hd] at e1
  obtain rfl := Option.some.inj e1
  exact hk H2 _ ⟨a, xs, _, _, rfl, rfl, same_sqt offS_same hs1, atI_nat hx, q _ H2 s2 e2⟩
/-- len of data -/
theorem pn_len {v : V} {i : Nat} {r : List V → Hp → VK → Prop} {Q : VK} (hr : r = rLenQ K) (h : σ[i]? = some (some v)) (hd : Dp K (offS S H) v (.tuple ds)) (q : Q (.int (ds.length : Nat)) H) : tCB r (tCons (tVar i) tNil) σ H Q := by
  subst hr
  cases hd with
  | @tup a xs _ hs ha =>
  refine ⟨_, h, a, xs, rfl, .inr (same_sqt offS_same hs), ?_⟩
  rw [dps_len ha]
  exact q
end
/-! ### put_place, put_entry themselves -/
theorem passF {X : Cx} : Passes (L2.CX X.prog X.w) X E0 := fun _ _ _ _ _ _ _ ⟨a, B, H', cls, d, _, _, _, _, _, _, _, hE⟩ => hE.elim
section
variable {K : PySem.W.Frag} {H : Hp} {Q : VK} {a : Addr} {ns : List Int} {es : List (List Int × PyData)} {x : V} {U : Addr} {E : XK}
theorem put_place_ok (hx : Dp K H x (lineD es)) (hl : LineOK es) (ha : SqT K H a (ns.map V.int)) (hr : RankI ns) (q : ∀ H', Same H H' → Q (.int (((es.map (·.1)).filter fun s => !HT.lexLt ns s).length : Nat)) H') : spPutPlace K U [x, .ref a] H Q E := by
  refine ⟨x, .ref a, lineD es, intsD ns, rfl, hx, rkv_dp ha, hl.len, fun e => ?_, fun _ e => ?_, fun ds p H' e _ _ hp s => ?_⟩
  · rw [hl.2.2] at e; exact nomatch e
  · rw [rank_intsD hr] at e; exact nomatch e
  · injection e with e
    rw [← e, rks_D, rk_intsD] at hp
    rw [place_count hp]
    exact q H' s
theorem put_entry_ok {z : V} {it : PyData} (hx : Dp K H x (lineD es)) (hl : LineOK es) (hl2 : es.length ≤ 900) (ha : SqT K H a (ns.map V.int)) (hr : RankI ns) (hz : Dp K H z it) (hi : plainN 3 it)
    (q : ∀ p, PlaceIs (es.map (·.1)) ns p → ∀ v H', Same H H' → DpF K H H' v (lineD (es.take p ++ [(ns, it)] ++ es.drop p)) → Q v H') : spPutEntry K U 6 [x, .ref a, z] H Q E := by
  refine ⟨x, .ref a, z, lineD es, intsD ns, it, rfl, hx, rkv_dp ha, hz, hl.len, fun e => ?_, fun _ e => ?_, fun ds p e _ _ hp => ?_⟩
  · rw [hl.2.2] at e; exact nomatch e
  · rw [rank_intsD hr] at e; exact nomatch e
  · injection e with e
    rw [← e, rks_D, rk_intsD] at hp
    rw [← e, put_D]
    refine ⟨plainN_mono 5 6 _ (by decide) ?_, fun v H' s f => q p hp v H' s f⟩
    refine plain_D ?_ fun e he => ?_
    · rw [List.length_append, List.length_append, List.length_take, List.length_drop, List.length_singleton]
      omega
    · rcases List.mem_append.mp he with he | he
      · rcases List.mem_append.mp he with he | he
        · exact hl.2.1 e (List.mem_of_mem_take he)
        · obtain rfl := List.mem_singleton.mp he
          exact ⟨hr, hi⟩
      · exact hl.2.1 e (List.mem_of_mem_drop he)
end
end K23
set_option Elab.async false
set_option linter.all false
set_option maxRecDepth 100000
set_option maxHeartbeats 4000000
namespace K23
open PySem PySem.Spec PyProof.Rows L2 Dt K23S
/-! ### expressions that draw -/
def PX (K : PySem.W.Frag) (tp ca : Addr) (te : TE) (σ : L2.St) (H : Hp) (D : PyData → Prop) : Prop := ∀ H1, Rn K tp ca H H1 → ∀ Q : VK, (∀ v H2 d, Rn K tp ca H1 H2 → D d → Dp K (offS [tp] H2) v d → Q v H2) → te σ H1 Q
def PXs (K : PySem.W.Frag) (tp ca : Addr) (ta : TA) (σ : L2.St) (H : Hp) (D : List PyData → Prop) : Prop := ∀ H1, Rn K tp ca H H1 → ∀ Q : List V → Hp → Prop, (∀ vs H2 ds, Rn K tp ca H1 H2 → D ds → DpAll K (offS [tp] H2) vs ds → Q vs H2) → ta σ H1 Q
section
variable {K : PySem.W.Frag} {tp ca : Addr} {σ : L2.St} {H : Hp} {te tf : TE} {ta : TA} {d : PyData} {ds : List PyData} {D F : PyData → Prop} {G : List PyData → Prop}
theorem goT {H H' : Hp} (r : Rn K tp ca H H') : GoS [tp] H H' := GoS.rn r (by simp)
theorem px_use {Q : VK} (hT : Tape K H tp ca) (h : PX K tp ca te σ H D) (q : ∀ v H' d, Rn K tp ca H H' → D d → Dp K (offS [tp] H') v d → Q v H') : te σ H Q := h H (Rn.refl hT) Q q
theorem px_var {i : Nat} {v : V} (h : σ[i]? = some (some v)) (hd : Dp K (offS [tp] H) v d) : PX K tp ca (tVar i) σ H (· = d) := fun H1 r Q q => ⟨v, h, q v H1 d (Rn.refl r.b) rfl (dp_same (goT r) hd)⟩
theorem px_n {k : Int} (h : PN te σ k) : PX K tp ca te σ H (· = .int k) := fun H1 r Q q => h H1 Q (q _ H1 _ (Rn.refl r.b) rfl (.int k))
theorem px_pv (h : ∀ H1, Rn K tp ca H H1 → PV K [tp] te σ H1 d) : PX K tp ca te σ H (· = d) := fun H1 r Q q => h H1 r H1 same_refl Q fun v H2 s hd => q v H2 d (Rn.of r.b s) rfl hd
theorem pxs_nil : PXs K tp ca tNil σ H (· = []) := fun H1 r Q q => q [] H1 [] (Rn.refl r.b) rfl .nil
theorem pxs_cons (h : PX K tp ca te σ H D) (hs : PXs K tp ca ta σ H G) : PXs K tp ca (tCons te ta) σ H (fun l => ∃ d ds, l = d :: ds ∧ D d ∧ G ds) := fun H1 r Q q => h H1 r _ fun v H2 d r2 hD h2 => hs H2 (r.trans r2) _ fun vs H3 ds r3 hG h3 => q (v :: vs) H3 (d :: ds) (r2.trans r3) ⟨d, ds, rfl, hD, hG⟩ (.cons (dp_same (goT r3) h2) h3)
theorem px_tup (h : PXs K tp ca ta σ H G) (hl : ∀ ds, G ds → ds.length ≤ 1000) : PX K tp ca (tTup ta) σ H (fun d => ∃ ds, d = .tuple ds ∧ G ds) := fun H1 r Q q => h H1 r _ fun vs H2 ds r2 hG h2 => by
  have hl1 := dps_len h2
  have hl2 := hl ds hG
  have hsl := sizeLine_eq
  exact ⟨by omega, fun p hp => q _ _ _ (r2.same (same_new hp)) ⟨ds, rfl, hG⟩ (.tup (sqt_offS upd_same (r2.b.inD.new hp)) (dps_same (GoS.of (same_new hp)) h2))⟩
theorem px_cat (ha : PX K tp ca te σ H D) (hb : PX K tp ca tf σ H F) (h1 : ∀ d, D d → ∃ ds, d = .tuple ds ∧ ds.length ≤ 5000) (h2 : ∀ d, F d → ∃ ds, d = .tuple ds ∧ ds.length ≤ 5000) :
    PX K tp ca (tOp (rCatA K) te tf) σ H (fun d => ∃ ds es, d = .tuple (ds ++ es) ∧ D (.tuple ds) ∧ F (.tuple es)) := fun H1 r Q q => ha H1 r _ fun v1 H2 d r2 hD hd => hb H2 (r.trans r2) _ fun v2 H3 e r3 hF he => by
  obtain ⟨ds, rfl, l1⟩ := h1 d hD
  obtain ⟨es, rfl, l2⟩ := h2 e hF
  have R := r2.trans r3
  refine (pv_cat (S := [tp]) (te := fun _ H Q => Q v1 H) (tf := fun _ H Q => Q v2 H) (σ := σ) (H := H3) r3.b.inD (fun H1 s Q q => q v1 H1 same_refl (dp_same (GoS.of s) (dp_same (goT r3) hd))) (fun H1 s Q q => q v2 H1 same_refl (dp_same (GoS.of s) he)) (by omega)) H3 same_refl Q fun v H' s hv => q v H' (.tuple (ds ++ es)) (R.same s) ⟨ds, es, rfl, hD, hF⟩ hv
end
theorem dp_tup {K : PySem.W.Frag} {H : Hp} {v : V} {ds : List PyData} (h : Dp K H v (.tuple ds)) : ∃ a xs, v = .ref a ∧ SqT K H a xs ∧ DpAll K H xs ds ∧ xs.length = ds.length := by
  cases h with
  | @tup a xs _ hs ha => exact ⟨a, xs, rfl, hs, ha, dps_len ha⟩
/-- an item of a display -/
theorem pv_menu {K : PySem.W.Frag} {tp ca : Addr} {σ : L2.St} {H : Hp} {te : TE} {ds : List PyData} {i0 n : Nat} {Q : VK} (hT : Tape K H tp ca) (h : PV K [tp] te σ H (.tuple ds)) (h0 : σ[i0]? = some (some (.ref tp))) (hn : ds.length = n) (h1 : 0 < n) (h2 : n ≤ 1000)
    (q : ∀ H' v d, Rn K tp ca H H' → d ∈ ds → Dp K (offS [tp] H') v d → Q v H') : tOp (rIxT K) te (tCall (spDraw K) [] E0 (tCons (tVar i0) (tCons (tC (.int (n : Nat))) tNil))) σ H Q := h H same_refl _ fun v H1 s1 hv => by
  refine ⟨_, h0, tp, ca, n, rfl, hT.same s1, h1, by omega, fun H2 r hr R2 => ?_⟩
  obtain ⟨a, xs, rfl, hs, ha, hl⟩ := dp_tup (dp_same (goT R2) hv)
  have hx : xs[r]? = some (xs[r]'(by omega)) := List.getElem?_eq_getElem (by omega)
  obtain ⟨d, hd, hdv⟩ := dps_at ha hx
  exact ⟨a, xs, _, _, rfl, rfl, same_sqt offS_same hs, atI_nat hx, q H2 _ d ((Rn.of hT s1).trans R2) (List.mem_of_getElem? hd) hdv⟩
/-! ### what makes a line none -/
theorem lineGo_mid {x : PyData} {r : List PyData} (h : ∀ last, lineGo last (x :: r) = false) : ∀ (l : List PyData) (last : List Int), lineGo last (l ++ x :: r) = false
  | [], last => h last
  | e :: l, last => by
    rw [List.cons_append]
    by_cases he : ∃ rk it, e = .tuple [rk, it]
    · obtain ⟨rk, it, rfl⟩ := he
      rw [lineGo_pair, lineGo_mid h l, Bool.and_false]
    · exact lineGo_bad last e _ fun rk it z => he ⟨rk, it, z⟩
theorem bad_rank_mid {b it : PyData} (h : rankOf b = false) (r : List PyData) (last : List Int) : lineGo last (.tuple [b, it] :: r) = false := by
  rw [lineGo_pair, h]
  rfl
/-! ### _law_bad_line -/
def BadL (d : PyData) : Prop := lineOf d = false ∧ ∀ ds, d = .tuple ds → ds.length ≤ 3000
def tRk (K : PySem.W.Frag) : TE := fun σ H Q => ∃ (tp : Addr) (v : V) (es : List (List Int × PyData)), σ[5]? = some (some v) ∧ InD [tp] H ∧ Dp K (offS [tp] H) v (.tuple (es.map enD)) ∧ (∀ e ∈ es, RankI e.1) ∧ ∀ r H' ns, Same H H' → RankI ns → Dp K (offS [tp] H') r (intsD ns) → Q r H'
def spBadLine (K : PySem.W.Frag) : Sp := fun vs H Q _ => ∃ (tp ca : Addr) (line : V) (es : List (List Int × PyData)), vs = [.ref tp, line] ∧ Tape K H tp ca ∧ Dp K (offS [tp] H) line (lineD es) ∧ LineOK es ∧ ∀ H' v d, Rn K tp ca H H' → BadL d → Dp K (offS [tp] H') v d → Q v H'
def lastD : List PyData := [.none, .int 3, .str "", .tuple [.tuple [], .int 0], .tuple [.tuple [.tuple [], .int 0], .none]]
theorem last_bad : ∀ d ∈ lastD, BadL d := by
  intro d hd
  simp only [lastD, List.mem_cons, List.not_mem_nil, or_false] at hd
  rcases hd with rfl | rfl | rfl | rfl | rfl
  · exact ⟨rfl, fun ds e => nomatch e⟩
  · exact ⟨rfl, fun ds e => nomatch e⟩
  · exact ⟨rfl, fun ds e => nomatch e⟩
  · refine ⟨by decide +kernel, fun ds e => ?_⟩
    injection e with e
    rw [← e]
    decide
  · refine ⟨by decide +kernel, fun ds e => ?_⟩
    injection e with e
    rw [← e]
    decide
section
variable {P : Program} {w : World} {K : PySem.W.Frag} {mg : Str → Option Value} {base : Heap} {C U fI fG B S PA : Addr}
theorem ok_badline (D : DefAt K mg "_law_bad_line" s_law_bad_line ["tape", "line"]) (T : Txt K mg) (GDraw : CalX P w K mg base CX0 1 "_law_draw" ["tape", "many"] (spDraw K)) (GBadRank : CalX P w K mg base CX0 2 "_law_bad_rank" ["tape"] (spBadRank K)) : CalX P w K mg base CX0 3 "_law_bad_line" ["tape", "line"] (spBadLine K) := by
  refine D.ok sc_law_bad_line (fun vs H Q E h => ?_) (fun f cdv A outer s H vs Q E hr h => ?_)
  · obtain ⟨tp, ca, line, es, rfl, _⟩ := h
    rfl
  obtain ⟨tp, ca, line, es, rfl, hT, hx, hl, q⟩ := h
  refine ⟨_, (pss_cons (ps_set (i := 2) sc_law_bad_line.nd rfl (.inl rfl) (pe_c0 GDraw hr (by decide) rfl (pa_cons (pv 0) (pa_cons pe_int pa_nil)))) 
    (pss_cons (ps_set (i := 3) sc_law_bad_line.nd rfl (.inl rfl) (pe_c0 GDraw hr (by decide) rfl (pa_cons (pv 0) (pa_cons (pe_op op_add (pe_callB call_len_seq (by rfl) T.len PySem.boot_len (pa_cons (pv 1) pa_nil)) pe_int) pa_nil)))) 
    (pss_cons (ps_set (i := 4) sc_law_bad_line.nd rfl (.inl rfl) (pe_slice sl_tupA (pv 1) po_none (po_some (pv 3)))) 
    (pss_cons (ps_set (i := 5) sc_law_bad_line.nd rfl (.inl rfl) (pe_slice sl_tupA (pv 1) (po_some (pv 3)) po_none)) 
    (pss_cons (ps_set (i := 6) sc_law_bad_line.nd rfl (.inl rfl) (pe_conv (t' := tRk K) (pe_ifExp (pt_cmpR op_gt (pe_callB call_len_seq (by rfl) T.len PySem.boot_len (pa_cons (pv 5) pa_nil)) pe_int (nomark _)) (pe_ix ix_tup (pe_ix ix_tup (pv 5) pe_int (fun _ _ => rfl)) pe_int (fun _ _ => rfl)) (pe_tup pa_nil)) (by
        rintro σ H Q ⟨tp, v, es, h5, hI, hv, hr, k⟩
        obtain ⟨a0, xs0, rfl, hs0, _, hl0⟩ := dp_tup hv
        refine ⟨_, h5, a0, xs0, rfl, .inr (same_sqt offS_same hs0), _, _, rfl, rfl, _, rfl, ?_⟩
        rw [hl0]
        refine ite2 (fun c => ?_) (fun c => ?_)
        · cases es with
          | nil => exact absurd c (by decide)
          | cons e es => exact pv_use (pv_ix (k := 0) (pv_ix (k := 0) (pv_var h5 hv) pn_c rfl) pn_c rfl) fun r H' s hd => k r H' e.1 s (hr e (by simp)) hd
        · exact pv_use (pv_tup hI pvs_nil (by decide)) fun r H' s hd => k r H' [] s ⟨by decide, (fun i h => nomatch h)⟩ hd))) 
    (pss_cons (ps_if (pt_cmpR op_eq (pv 2) pe_int (nomark _)) 
      (pss_one (ps_ret (pe_callTy call_list_of (by rfl) T.list (by decide +kernel) (pa_cons (pv 1) pa_nil)))) pss_nil) 
    (pss_cons (ps_if (pt_cmpR op_eq (pv 2) pe_int (nomark _)) 
      (pss_one (ps_ret (pe_op op_catA (pe_op op_catA (pv 4) (pe_tup (pa_cons (pe_tup (pa_cons (pe_c0 GBadRank hr (by decide) rfl (pa_cons (pv 0) pa_nil)) (pa_cons pe_int pa_nil))) pa_nil))) (pv 5)))) pss_nil) 
    (pss_cons (ps_if (pt_cmpR op_eq (pv 2) pe_int (nomark _)) 
      (pss_one (ps_ret (pe_op op_catA (pe_op op_catA (pv 4) (pe_tup (pa_cons (pe_lst (pa_cons (pv 6) (pa_cons pe_int pa_nil))) pa_nil))) (pv 5)))) pss_nil) 
    (pss_cons (ps_if (pt_cmpR op_eq (pv 2) pe_int (nomark _)) 
      (pss_one (ps_ret (pe_op op_catA (pe_op op_catA (pv 4) (pe_tup (pa_cons (pe_tup (pa_cons (pv 6) (pa_cons pe_int (pa_cons pe_int pa_nil)))) pa_nil))) (pv 5)))) pss_nil) 
    (pss_cons (ps_if (pt_cmpR op_eq (pv 2) pe_int (nomark _)) 
      (pss_one (ps_ret (pe_op op_catA (pe_op op_catA (pv 4) (pe_tup (pa_cons (pe_tup (pa_cons (pv 6) pa_nil)) pa_nil))) (pv 5)))) pss_nil) 
    (pss_cons (ps_if (pt_cmpR op_eq (pv 2) pe_int (nomark _)) 
      (pss_one (ps_ret (pe_op op_catA (pe_op op_catA (pv 4) (pe_tup (pa_cons (pe_tup (pa_cons (pe_tup (pa_cons pe_int (pa_cons pe_int pa_nil))) (pa_cons pe_int pa_nil))) (pa_cons (pe_tup (pa_cons (pe_tup (pa_cons pe_int (pa_cons pe_int (pa_cons pe_int pa_nil)))) (pa_cons pe_int pa_nil))) pa_nil)))) (pv 5)))) pss_nil) 
    (pss_one (ps_ret (pe_ix ix_tup (pe_tup (pa_cons pe_non (pa_cons pe_int (pa_cons pe_str (pa_cons (pe_tup (pa_cons (pe_tup pa_nil) (pa_cons pe_int pa_nil))) (pa_cons (pe_tup (pa_cons (pe_tup (pa_cons (pe_tup pa_nil) (pa_cons pe_int pa_nil))) (pa_cons pe_non pa_nil))) pa_nil)))))) (pe_c0 GDraw hr (by decide) rfl (pa_cons (pv 0) (pa_cons pe_int pa_nil))) (fun _ _ => rfl))))))))))))))), ?_⟩

  refine ⟨_, rfl, tp, ca, 7, rfl, hT, by decide, by decide, fun H1 kd hkd R1 => ?_⟩
  have hx1 := dp_same (goT R1) hx
  have hl1 := hl.1
  obtain ⟨a0, xs0, rfl, hs0, _, hl0⟩ := dp_tup hx1
  rw [List.length_map] at hl0
  refine ⟨_, rfl, _, rfl, a0, xs0, rfl, .inr (same_sqt offS_same hs0), _, _, rfl, rfl, tp, ca, xs0.length + 1, rfl, R1.b, by omega, by omega, fun H2 at' hat R2 => ?_⟩
  have hx2 := dp_same (goT R2) hx1
  refine pv_use (pv_take R2.b.inD (pv_var rfl hx2) (pn_v rfl)) fun v4 H3 s3 h4 => ?_
  have R3 := R2.same s3
  have hx3 := dp_same (GoS.of s3) hx2
  refine pv_use (pv_drop R3.b.inD (pv_var rfl hx3) (pn_v rfl)) fun v5 H4 s4 h5 => ?_
  have R4 := R3.same s4
  have h4' := dp_same (GoS.of s4) h4
  rw [← List.map_drop] at h5
  refine ⟨tp, v5, es.drop at', rfl, R4.b.inD, h5, (fun e he => (hl.2.1 e (List.mem_of_mem_drop he)).1), fun v6 H5 ns s5 hns h6 => ?_⟩
  have R5 := R1.trans (R4.same s5)
  have hx5 := dp_same (GoS.of s5) (dp_same (GoS.of s4) hx3)
  have h45 := dp_same (GoS.of s5) h4'
  have h55 := dp_same (GoS.of s5) h5
  have hI := R5.b.inD
  have len1 : ((es.map enD).take at').length ≤ 1000 := by
    rw [List.length_take, List.length_map]
    omega
  have len2 : ((es.drop at').map enD).length ≤ 1000 := by
    rw [List.length_map, List.length_drop]
    omega
  -- the middle
  have mid : ∀ (l : List PyData) (x : PyData) (r : List PyData), (∀ last, lineGo last (x :: r) = false) → l.length ≤ 1000 → r.length ≤ 1001 → BadL (.tuple (l ++ x :: r)) := fun l x r h h1 h2 => by
    refine ⟨lineGo_mid h l [], fun ds e => ?_⟩
    injection e with e
    rw [← e, List.length_append, List.length_cons]
    omega
  refine ⟨_, rfl, rfl, _, rfl, ?_⟩
  refine ite2 (fun _ => ?_) (fun _ => ?_)
  · obtain ⟨a, xs, e, hs, ha, _⟩ := dp_tup hx5
    obtain rfl : a0 = a := by injection e
    refine ⟨_, rfl, a0, xs, rfl, .inr (same_sqt offS_same hs), fun l hl2 => ?_⟩
    exact q _ _ (.list (es.map enD)) (R5.same (same_new hl2)) ⟨rfl, fun ds e => nomatch e⟩ (.lst (sql_offS upd_same (hI.new hl2)) (dps_same (GoS.of (same_new hl2)) ha))
  refine ⟨_, rfl, rfl, _, rfl, ?_⟩
  refine ite2 (fun _ => ?_) (fun _ => ?_)
  · have pb : PX K tp ca (tCall (spBadRank K) [] E0 (tCons (tVar 0) tNil)) [some (.ref tp), some (.ref a0), some (.int (kd : Nat)), some (.int (at' : Nat)), some v4, some v5, some v6] H5 BadR := fun H6 r6 Q6 q6 => ⟨_, rfl, tp, ca, rfl, r6.b, fun H7 v d r7 hd f7 => q6 v H7 d r7 hd (by rw [off_del]; exact f7.off r6.b)⟩
    refine px_use R5.b (px_cat (px_cat (px_var rfl h45) (px_tup (pxs_cons (px_tup (pxs_cons pb (pxs_cons (px_n pn_c) pxs_nil)) ?_) pxs_nil) ?_) ?_ ?_) (px_var rfl h55) ?_ ?_) fun v H' d R6 hd hv => q H' v d (R5.trans R6) ?_ hv
    · rintro ds ⟨d1, r1, rfl, h1, d2, r2, rfl, h2, rfl⟩
      show 2 ≤ 1000
      decide
    · rintro ds ⟨d1, r1, rfl, h1, rfl⟩
      show 1 ≤ 1000
      decide
    · rintro d rfl
      exact ⟨_, rfl, by omega⟩
    · rintro d ⟨ds, rfl, d1, r1, rfl, h1, rfl⟩
      exact ⟨_, rfl, by show 1 ≤ 5000; decide⟩
    · rintro d ⟨ds, es', rfl, h1, ds2, h2, d1, r1, rfl, h3, rfl⟩
      injection h1 with h1
      injection h2 with h2
      subst h1 h2
      exact ⟨_, rfl, by rw [List.length_append]; show _ + 1 ≤ 5000; omega⟩
    · rintro d rfl
      exact ⟨_, rfl, by omega⟩
    · obtain ⟨ds, es', rfl, ⟨ds3, es3, e3, h1, ds2, h2, d1, r1, rfl, ⟨ds4, e4, d5, r5, e5, h5, d6, r6, e6, h6, h7⟩, h3⟩, h4⟩ := hd
      injection h1 with h1
      injection h2 with h2
      injection e3 with e3
      injection h4 with h4
      subst h1 h2 e4 e5 e6 h3 h7 h4 h6
      rw [e3, List.append_assoc]
      exact mid _ _ _ (bad_rank_mid h5.2.1 _) len1 (by show ((es.drop at').map enD).length ≤ 1001; omega)
  refine ⟨_, rfl, rfl, _, rfl, ?_⟩
  refine ite2 (fun _ => ?_) (fun _ => ?_)
  · refine pv_use (pv_cat hI (pv_cat hI (pv_var rfl h45) (pv_tup hI (pvs_cons (pv_lst hI (pvs_cons (pv_var rfl h6) (pvs_cons pv_int pvs_nil)) (by show 2 ≤ 1000; decide)) pvs_nil) (by show 1 ≤ 1000; decide)) (by show _ + 1 ≤ 10000; omega)) (pv_var rfl h55) (by rw [List.length_append]; show _ + 1 + _ ≤ 10000; omega)) fun v H' s hv => q H' v _ (R5.same s) ?_ hv
    rw [List.append_assoc]
    exact mid _ _ _ (fun last => lineGo_bad last _ _ fun rk it z => nomatch z) len1 (by show ((es.drop at').map enD).length ≤ 1001; omega)
  refine ⟨_, rfl, rfl, _, rfl, ?_⟩
  refine ite2 (fun _ => ?_) (fun _ => ?_)
  · refine pv_use (pv_cat hI (pv_cat hI (pv_var rfl h45) (pv_tup hI (pvs_cons (pv_tup hI (pvs_cons (pv_var rfl h6) (pvs_cons pv_int (pvs_cons pv_int pvs_nil))) (by show 3 ≤ 1000; decide)) pvs_nil) (by show 1 ≤ 1000; decide)) (by show _ + 1 ≤ 10000; omega)) (pv_var rfl h55) (by rw [List.length_append]; show _ + 1 + _ ≤ 10000; omega)) fun v H' s hv => q H' v _ (R5.same s) ?_ hv
    rw [List.append_assoc]
    exact mid _ _ _ (fun last => lineGo_bad last _ _ fun rk it z => by injection z with z; injection z with _ z; injection z with _ z; injection z) len1 (by show ((es.drop at').map enD).length ≤ 1001; omega)
  refine ⟨_, rfl, rfl, _, rfl, ?_⟩
  refine ite2 (fun _ => ?_) (fun _ => ?_)
  · refine pv_use (pv_cat hI (pv_cat hI (pv_var rfl h45) (pv_tup hI (pvs_cons (pv_tup hI (pvs_cons (pv_var rfl h6) pvs_nil) (by show 1 ≤ 1000; decide)) pvs_nil) (by show 1 ≤ 1000; decide)) (by show _ + 1 ≤ 10000; omega)) (pv_var rfl h55) (by rw [List.length_append]; show _ + 1 + _ ≤ 10000; omega)) fun v H' s hv => q H' v _ (R5.same s) ?_ hv
    rw [List.append_assoc]
    exact mid _ _ _ (fun last => lineGo_bad last _ _ fun rk it z => by injection z with z; injection z with _ z; injection z) len1 (by show ((es.drop at').map enD).length ≤ 1001; omega)
  refine ⟨_, rfl, rfl, _, rfl, ?_⟩
  refine ite2 (fun _ => ?_) (fun _ => ?_)
  · refine pv_use (pv_cat hI (pv_cat hI (pv_var rfl h45) (pv_tup hI (pvs_cons (pv_tup hI (pvs_cons (pv_tup hI (pvs_cons pv_int (pvs_cons pv_int pvs_nil)) (by show 2 ≤ 1000; decide)) (pvs_cons pv_int pvs_nil)) (by show 2 ≤ 1000; decide)) (pvs_cons (pv_tup hI (pvs_cons (pv_tup hI (pvs_cons pv_int (pvs_cons pv_int (pvs_cons pv_int pvs_nil))) (by show 3 ≤ 1000; decide)) (pvs_cons pv_int pvs_nil)) (by show 2 ≤ 1000; decide)) pvs_nil)) (by show 2 ≤ 1000; decide)) (by show _ + 2 ≤ 10000; omega)) (pv_var rfl h55) (by rw [List.length_append]; show _ + 2 + _ ≤ 10000; omega)) fun v H' s hv => q H' v _ (R5.same s) ?_ hv
    rw [List.append_assoc]
    refine mid _ _ _ (fun last => ?_) len1 (by show ((es.drop at').map enD).length + 1 ≤ 1001; omega)
    rw [lineGo_pair]
    have e : lineGo (rkInts (.tuple [.int 0, .int 5])) (.tuple [.tuple [.int 0, .int 4, .int 9], .int 1] :: ((es.drop at').map enD)) = false := by
      rw [lineGo_pair]
      have e2 : HT.lexLt (rkInts (.tuple [.int 0, .int 4, .int 9])) (rkInts (.tuple [.int 0, .int 5])) = true := by decide +kernel
      rw [e2]
      simp
    show (_ && _ && lineGo (rkInts (.tuple [.int 0, .int 5])) (.tuple [.tuple [.int 0, .int 4, .int 9], .int 1] :: ((es.drop at').map enD))) = false
    rw [e, Bool.and_false]
  exact pv_menu (n := 5) R5.b (pv_tup hI (pvs_cons pv_non (pvs_cons pv_int (pvs_cons pv_str (pvs_cons (pv_tup hI (pvs_cons (pv_tup hI pvs_nil (by decide)) (pvs_cons pv_int pvs_nil)) (by show 2 ≤ 1000; decide)) (pvs_cons (pv_tup hI (pvs_cons (pv_tup hI (pvs_cons (pv_tup hI pvs_nil (by decide)) (pvs_cons pv_int pvs_nil)) (by show 2 ≤ 1000; decide)) (pvs_cons pv_non pvs_nil)) (by show 2 ≤ 1000; decide)) pvs_nil))))) (by show 5 ≤ 1000; decide)) rfl rfl (by decide) (by decide) fun H' v d R6 hd hv => q H' v d (R5.trans R6) (last_bad d hd) hv
end
end K23
set_option Elab.async false
set_option linter.all false
set_option maxRecDepth 100000
set_option maxHeartbeats 8000000
namespace K23
open PySem PySem.Spec PyProof.Rows L2 Dt K23S
/-! ### the place that is due, as it is counted -/
theorem due_read {K : PySem.W.Frag} {σ : L2.St} {H : Hp} {il ip ir : Nat} {line : V} {a : Addr} {ns : List Int} {es : List (List Int × PyData)} {r : List V → Hp → VK → Prop} {Q : VK} (hr : r = rLenQ K) (hil : σ[il]? = some (some line)) (hx : Dp K H line (lineD es)) (hl : LineOK es) (ha : SqT K H a (ns.map V.int)) (hns : RankI ns)
    (h1 : ∀ y, ((wipe σ [ip]).set ip (some y))[ip]? = some (some y)) (h2 : ∀ y, ((wipe σ [ip]).set ip (some y))[ir]? = some (some (.ref a))) (h3 : ∀ y, wipe ((wipe σ [ip]).set ip (some y)) [ip] = wipe σ [ip])
    (q : ∀ H', Same H H' → Q (.int (((es.map (·.1)).filter fun s => !HT.lexLt ns s).length : Nat)) H') :
    tCB r (tCons (tLc (iTup K (tVar il)) (gName ip) (tNot (tB (tCall (spGreater K) [] E0 (tCons (tOp (rIxT K) (tVar ip) (tC (.int 0))) (tCons (tVar ir) tNil))))) (tVar ip) [ip]) tNil) σ H Q := by
  subst hr
  obtain ⟨b, xs, rfl, hs, hxs, hxl⟩ := dp_tup hx
  rw [List.length_map] at hxl
  have hl1 := hl.1
  have hsl := sizeLine_eq
  refine ⟨_, hil, b, rfl, ⟨_, hs⟩, fun Dl hDl => lc_tup (K := K) (a := b) (xs := xs) (fun j H' => Same H H' ∧ ∃ acc, H' Dl = some (.lst acc) ∧ acc.length = (((es.take j).map (·.1)).filter fun s => !HT.lexLt ns s).length ∧ acc.length ≤ j) ⟨same_new hDl, [], upd_same, rfl, Nat.zero_le _⟩ (fun j H' _ ⟨sm, _⟩ => same_sqt sm hs) ?_ ?_⟩
  · rintro j y H' hj ⟨sm, acc, hA, hal, haj⟩
    have hjl := (List.getElem?_eq_some_iff.mp hj).1
    obtain ⟨d, hd, hy⟩ := dps_at hxs hj
    rw [List.getElem?_map] at hd
    obtain ⟨e, he, rfl⟩ := Option.map_eq_some_iff.mp hd
    obtain ⟨c, zs, rfl, hc, hzs, _⟩ := dp_tup hy
    cases hzs with
    | @cons v1 vr _ _ g1 gr =>
    have hre := (hl.2.1 e (List.mem_of_getElem? he)).1
    obtain ⟨ra, rfl, hra⟩ := rank_sqt g1 (rank_intsD hre)
    rw [rk_intsD] at hra
    have e1 := hre.1
    have e2 := hns.1
    refine ⟨h3 _, ?_⟩
    refine ⟨_, h1 _, c, (V.ref ra :: vr), 0, V.ref ra, rfl, rfl, same_sqt sm hc, (show atI (V.ref ra :: vr) ((0 : Nat) : Int) = some (V.ref ra) from atI_nat rfl), _, h2 _, ra, a, e.1, ns, rfl, same_sqt sm hra, same_sqt sm ha, by omega, by omega, ⟨_, rfl, ?_⟩⟩
    have et : ((es.take (j + 1)).map (·.1)).filter (fun s => !HT.lexLt ns s) = ((es.take j).map (·.1)).filter (fun s => !HT.lexLt ns s) ++ [e.1].filter (fun s => !HT.lexLt ns s) := by
      rw [List.take_add_one, he, List.map_append, List.filter_append]
      rfl
    refine ite2 (fun c => ?_) (fun c => ?_)
    · refine ⟨_, h1 _, acc, hA, by omega, same_mut sm hDl, acc ++ [_], upd_same, ?_, by rw [List.length_append]; show acc.length + 1 ≤ j + 1; omega⟩
      rw [et, List.length_append, List.length_append, hal, List.filter_cons_of_pos (p := fun s => !HT.lexLt ns s) c]
      rfl
    · refine ⟨sm, acc, hA, ?_, by omega⟩
      rw [et, List.length_append, hal, List.filter_cons_of_neg (p := fun s => !HT.lexLt ns s) c]
      rfl
  · rintro H1 ⟨sm, acc, hA, hal, haj⟩
    rw [hxl, List.take_length] at hal
    refine ⟨Dl, acc, rfl, .inl (SqL.of hA), ?_⟩
    rw [hal]
    exact q H1 sm
/-! ### _law_long -/
def longE (k : Nat) : List Int × PyData := ([((k / 3 : Nat) : Int)], .int (k : Nat))
theorem long_ok (n : Nat) (h : n ≤ 900) : LineOK ((List.range n).map longE) := by
  refine ⟨by rw [List.length_map, List.length_range]; omega, fun e he => ?_, line_D (fun e he => ?_) ?_⟩
  · obtain ⟨k, hk, rfl⟩ := List.mem_map.mp he
    have := List.mem_range.mp hk
    refine ⟨⟨by show 1 ≤ 8; decide, fun i hi => ?_⟩, trivial⟩
    obtain rfl := List.mem_singleton.mp hi
    unfold rankB
    omega
  · obtain ⟨k, hk, rfl⟩ := List.mem_map.mp he
    have := List.mem_range.mp hk
    refine ⟨by show 1 ≤ 8; decide, fun i hi => ?_⟩
    obtain rfl := List.mem_singleton.mp hi
    unfold rankB
    omega
  · rw [List.pairwise_map]
    refine List.Pairwise.imp (fun {a b} hab => ?_) (List.pairwise_lt_range (n := n))
    show HT.lexLt [((b / 3 : Nat) : Int)] [((a / 3 : Nat) : Int)] = false
    rw [HT.lexLt_cons]
    by_cases e : ((b / 3 : Nat) : Int) = ((a / 3 : Nat) : Int)
    · rw [if_pos e]
      rfl
    · rw [if_neg e]
      refine decide_eq_false ?_
      have : a / 3 ≤ b / 3 := Nat.div_le_div_right (by omega)
      omega
def spLong (K : PySem.W.Frag) : Sp := fun vs H Q _ => ∃ (tp ca : Addr), vs = [.ref tp] ∧ Tape K H tp ca ∧ ∀ H', Rn K tp ca H H' → Q (.bl true) H'
def tMany2 (K : PySem.W.Frag) : TS := fun D σ H => ∃ (tp ca : Addr), σ = [some (.ref tp), none, none, none, none, none, none] ∧ Tape K H tp ca ∧ ∀ (mn : Nat) H', 104 ≤ mn → mn ≤ 160 → Rn K tp ca H H' → D.nx [some (.ref tp), some (.int (mn : Nat)), none, none, none, none, none] H'
theorem px_draw {K : PySem.W.Frag} {tp ca : Addr} {σ : L2.St} {H : Hp} {te : TE} {i0 n : Nat} (h0 : σ[i0]? = some (some (.ref tp))) (hn : PN te σ (n : Nat)) (h1 : 0 < n) (h2 : n ≤ 536870912) : PX K tp ca (tCall (spDraw K) [] E0 (tCons (tVar i0) (tCons te tNil))) σ H (fun d => ∃ r : Nat, r < n ∧ d = .int (r : Nat)) :=
  fun H1 r1 Q q => ⟨_, h0, hn H1 _ ⟨tp, ca, n, rfl, r1.b, h1, h2, fun H2 r hr R2 => q _ H2 _ R2 ⟨r, hr, rfl⟩ (.int _)⟩⟩
def tFd : TE := tOp (rI CDiv fun i j => V.int (i / j)) (tVar 1) (tC (V.int 3))
theorem pn_fd {tp : Addr} {mn : Nat} {o2 o3 o4 o5 o6 : Option V} : PN tFd [some (.ref tp), some (.int (mn : Nat)), o2, o3, o4, o5, o6] ((mn / 3 : Nat) : Int) := fun H Q q => ⟨_, rfl, _, _, rfl, rfl, ⟨by decide, by decide⟩, by
    have e : ((mn : Nat) : Int) / 3 = ((mn / 3 : Nat) : Int) := by omega
    show Q (.int (((mn : Nat) : Int) / 3)) H
    rw [e]
    exact q⟩
def t3 (K : PySem.W.Frag) : TE := tTup
                      (tCons
                        (tTup
                          (tCons
                            (tCall (spDraw K) [] E0
                              (tCons (tVar 0)
                                (tCons tFd tNil)))
                            tNil))
                        (tCons
                          (tTup
                            (tCons
                              (tOp (rI0 fun i j => V.int (i - j))
                                tFd (tC (V.int 1)))
                              tNil))
                          (tCons (tTup (tCons (tVar 1) (tCons (tUn (rU fun i => V.int (-i)) (tC (V.int 1))) tNil)))
                            tNil)))
theorem px_t3 {K : PySem.W.Frag} {tp ca : Addr} {mn : Nat} {o2 o3 o4 o5 o6 : Option V} {H : Hp} (m1 : 104 ≤ mn) (m2 : mn ≤ 160) :
   PX K tp ca (t3 K) [some (.ref tp), some (.int (mn : Nat)), o2, o3, o4, o5, o6] H (fun d => ∃ rs : List (List Int), d = .tuple (rs.map intsD) ∧ rs.length = 3 ∧ ∀ r ∈ rs, RankI r) := by
  have h1 : PX K tp ca (tTup (tCons (tCall (spDraw K) [] E0 (tCons (tVar 0) (tCons tFd tNil))) tNil)) [some (.ref tp), some (.int (mn : Nat)), o2, o3, o4, o5, o6] H _ := px_tup (pxs_cons (px_draw rfl pn_fd (by omega) (by omega)) pxs_nil) (by
      rintro ds ⟨d1, r1, rfl, h1, rfl⟩
      show 1 ≤ 1000
      decide)
  have h2 : PX K tp ca (tTup (tCons (tOp (rI0 fun i j => V.int (i - j)) tFd (tC (V.int 1))) tNil)) [some (.ref tp), some (.int (mn : Nat)), o2, o3, o4, o5, o6] H _ := px_tup (pxs_cons (px_n (pn_sub pn_fd (pn_c (k := 1)))) pxs_nil) (by
      rintro ds ⟨d1, r1, rfl, h1, rfl⟩
      show 1 ≤ 1000
      decide)
  have h3 : PX K tp ca (tTup (tCons (tVar 1) (tCons (tUn (rU fun i => V.int (-i)) (tC (V.int 1))) tNil))) [some (.ref tp), some (.int (mn : Nat)), o2, o3, o4, o5, o6] H _ := px_tup (pxs_cons (px_n (pn_v (i := 1) rfl)) (pxs_cons (px_n (pn_neg (pn_c (k := 1)))) pxs_nil)) (by
      rintro ds ⟨d1, r1, rfl, h1, d2, r2, rfl, h2, rfl⟩
      show 2 ≤ 1000
      decide)
  have h := px_tup (pxs_cons h1 (pxs_cons h2 (pxs_cons h3 pxs_nil))) (by
      rintro ds ⟨d1, r1, rfl, h1, d2, r2, rfl, h2, d3, r3, rfl, h3, rfl⟩
      show 3 ≤ 1000
      decide)
  intro H1 R1 Q q
  refine h H1 R1 Q fun v H2 d R2 hd hv => q v H2 d R2 ?_ hv
  obtain ⟨_, rfl, d1, _, rfl, ⟨_, rfl, x1, _, rfl, ⟨r, hr, rfl⟩, rfl⟩, d2, _, rfl, ⟨_, rfl, x2, _, rfl, rfl, rfl⟩, d3, _, rfl, ⟨_, rfl, x3, _, rfl, rfl, x4, _, rfl, rfl, rfl⟩, rfl⟩ := hd
  refine ⟨[[(r : Nat)], [((mn / 3 : Nat) : Int) - 1], [(mn : Nat), -1]], rfl, rfl, fun s hs => ?_⟩
  simp only [List.mem_cons, List.not_mem_nil, or_false] at hs
  rcases hs with rfl | rfl | rfl
  · refine ⟨by show 1 ≤ 8; decide, fun i hi => ?_⟩
    obtain rfl := List.mem_singleton.mp hi
    unfold rankB
    omega
  · refine ⟨by show 1 ≤ 8; decide, fun i hi => ?_⟩
    obtain rfl := List.mem_singleton.mp hi
    unfold rankB
    omega
  · refine ⟨by show 2 ≤ 8; decide, fun i hi => ?_⟩
    simp only [List.mem_cons, List.not_mem_nil, or_false] at hi
    unfold rankB
    omega
def tL3 (K : PySem.W.Frag) : TE := fun σ H Q => ∃ (tp ca : Addr) (mn : Nat) (o2 o3 o4 o5 o6 : Option V), σ = [some (.ref tp), some (.int (mn : Nat)), o2, o3, o4, o5, o6] ∧ Tape K H tp ca ∧ 104 ≤ mn ∧ mn ≤ 160 ∧
  ∀ H' v (rs : List (List Int)), Rn K tp ca H H' → rs.length = 3 → (∀ r ∈ rs, RankI r) → Dp K (offS [tp] H') v (.tuple (rs.map intsD)) → Q v H'
def tLD (K : PySem.W.Frag) : TS := fun D σ H => ∃ (line : V) (a : Addr) (ns : List Int) (es : List (List Int × PyData)) (o0 o1 o5 o6 : Option V), σ = [o0, o1, none, some line, some (.ref a), o5, o6] ∧
  Dp K H line (lineD es) ∧ LineOK es ∧ SqT K H a (ns.map V.int) ∧ RankI ns ∧ ∀ H', Same H H' → D.nx [o0, o1, none, some line, some (.ref a), o5, some (.int (((es.map (·.1)).filter fun s => !HT.lexLt ns s).length : Nat))] H'
def tLP (K : PySem.W.Frag) : TS := fun D σ H => ∃ (line : V) (a : Addr) (ns : List Int) (es : List (List Int × PyData)), σ[3]? = some (some line) ∧ σ[4]? = some (some (.ref a)) ∧ σ[6]? = some (some (.int (((es.map (·.1)).filter fun s => !HT.lexLt ns s).length : Nat))) ∧
  Dp K H line (lineD es) ∧ LineOK es ∧ SqT K H a (ns.map V.int) ∧ RankI ns ∧ ∀ H', Same H H' → D.nx σ H'
def tLE (K : PySem.W.Frag) : TS := fun D σ H => ∃ (line : V) (a : Addr) (ns : List Int) (es : List (List Int × PyData)), σ[3]? = some (some line) ∧ σ[4]? = some (some (.ref a)) ∧ σ[6]? = some (some (.int (((es.map (·.1)).filter fun s => !HT.lexLt ns s).length : Nat))) ∧
  Dp K H line (lineD es) ∧ LineOK es ∧ es.length ≤ 900 ∧ SqT K H a (ns.map V.int) ∧ RankI ns ∧ ∀ H', Same H H' → D.nx σ H'
theorem offS_nil {H : Hp} : offS [] H = H := by
  funext b
  exact offS_ne (fun z => nomatch z)
section
variable {P : Program} {w : World} {K : PySem.W.Frag} {mg : Str → Option Value} {base : Heap} {C U fI fG B S PA : Addr}
theorem ok_long (D : DefAt K mg "_law_long" s_law_long ["tape"]) (T : Txt K mg) (GDraw : CalX P w K mg base CX0 1 "_law_draw" ["tape", "many"] (spDraw K)) (GGreater : CalX P w K mg base CX0 1 "_law_greater" ["one", "other"] (spGreater K)) (GSame : CalX P w K mg base CX0 6 "_law_same" ["one", "other"] (spSame K 6))
    (GPutPlace : CalX P w K mg base (L2.CX P w) 4 "put_place" ["line", "rank"] (spPutPlace K U)) (GPutEntry : CalX P w K mg base (L2.CX P w) 7 "put_entry" ["line", "rank", "item"] (spPutEntry K U 6)) : CalX P w K mg base CX0 8 "_law_long" ["tape"] (spLong K) := by
  refine D.ok sc_law_long (fun vs H Q E h => ?_) (fun f cdv A outer s H vs Q E hr h => ?_)
  · obtain ⟨tp, ca, rfl, _⟩ := h
    rfl
  obtain ⟨tp, ca, rfl, hT, q⟩ := h
  refine ⟨_, (pss_cons (ps_conv (t' := tMany2 K) (ps_set (i := 1) sc_law_long.nd rfl (.inl rfl) (pe_op op_add pe_int (pe_c0 GDraw hr (by decide) rfl (pa_cons (pv 0) (pa_cons pe_int pa_nil))))) (by
        rintro D σ H ⟨tp, ca, rfl, hT, k⟩
        refine ⟨_, rfl, tp, ca, 57, rfl, hT, by decide, by decide, fun H1 r hr1 R1 => ⟨_, _, rfl, rfl, ?_⟩⟩
        have e : (104 : Int) + (r : Nat) = ((104 + r : Nat) : Int) := by omega
        have := k (104 + r) H1 (by omega) (by omega) R1
        rw [← e] at this
        exact this)) 
    (pss_cons (ps_set (i := 3) sc_law_long.nd rfl (.inl rfl) (pe_callTy call_tuple_of (by rfl) T.tuple PyProof.Rows.boot_tuple (pa_cons (pe_lc (own := [("k", 2)]) (g := gName 2) (tt := tYes) (by rfl) sc_law_long.nd (pi_range1 (by rfl) T.range (pa_cons (pv 1) pa_nil)) (blkOk_by (own := [("k", 2)]) (N := N_law_long) (sc := defScope s_law_long) (by decide +kernel)) (fun _ _ _ _ _ => pg_name (i := 2) sc_law_long.nd rfl (Or.inl rfl)) (fun _ _ _ _ _ => pts_nil) (fun _ _ _ _ _ => by exact (pe_tup (pa_cons (pe_tup (pa_cons (pe_op op_fdiv (pv 2) pe_int) pa_nil)) (pa_cons (pv 2) pa_nil))))) pa_nil))) 
    (pss_cons (ps_for PassesOwn.never rfl (pi_tup (pe_conv (t' := tL3 K) (pe_tup (pa_cons (pe_tup (pa_cons (pe_c0 GDraw hr (by decide) rfl (pa_cons (pv 0) (pa_cons (pe_op op_fdiv (pv 1) pe_int) pa_nil))) pa_nil)) (pa_cons (pe_tup (pa_cons (pe_op op_sub (pe_op op_fdiv (pv 1) pe_int) pe_int) pa_nil)) (pa_cons (pe_tup (pa_cons (pv 1) (pa_cons (pe_un un_neg pe_int) pa_nil))) pa_nil)))) (by
        rintro σ H Q ⟨tp, ca, mn, o2, o3, o4, o5, o6, rfl, hT, m1, m2, k⟩
        show t3 K _ H Q
        exact px_use hT (px_t3 m1 m2) fun v H' d R hd hv => by
          obtain ⟨rs, rfl, hl, hr⟩ := hd
          exact k H' v rs R hl hr hv))) (pg_name (i := 4) sc_law_long.nd rfl (Or.inr rfl)) 
      (pss_cons (ps_conv (t' := tLD K) (ps_set (i := 6) sc_law_long.nd rfl (.inl rfl) (pe_callB call_len_seq (by rfl) T.len PySem.boot_len (pa_cons (pe_lc (own := [("pair", 5)]) (g := gName 5) (by rfl) sc_law_long.nd (pi_tup (pv 3)) (blkOk_by (own := [("pair", 5)]) (N := N_law_long) (sc := defScope s_law_long) (by decide +kernel)) (fun _ _ _ _ _ => pg_name (i := 5) sc_law_long.nd rfl (Or.inl rfl)) (fun _ _ _ _ _ => by exact (pts_one (pt_not (pt_val (pe_c0 GGreater hr (by decide) rfl (pa_cons (pe_ix (show IxR _ (rIxT K) from ix_tup) (pv 5) pe_int (fun _ _ => rfl)) (pa_cons (pv 4) pa_nil))))))) (fun _ _ _ _ _ => by exact (pv 5))) pa_nil))) (by
        rintro D σ H ⟨line, a, ns, es, o0, o1, o5, o6, rfl, hx, hl, ha, hr2, k⟩
        exact due_read (σ := [o0, o1, none, some line, some (.ref a), o5, o6]) (il := 3) (ip := 5) (ir := 4) rfl rfl hx hl ha hr2 (fun _ => rfl) (fun _ => rfl) (fun _ => rfl) fun H6 s6 => k H6 s6)) 
      (pss_cons (ps_conv (t' := tLP K) (ps_if (pt_not (pt_val (pe_c0 GSame hr (by decide) rfl (pa_cons (pe_cx GPutPlace hr (by decide) rfl passF (pa_cons (pv 3) (pa_cons (pv 4) pa_nil))) (pa_cons (pv 6) pa_nil))))) 
        (pss_one (ps_ret pe_bl)) pss_nil) (by
        rintro D σ H ⟨line, a, ns, es, h3, h4, h6, hx, hl, ha, hr2, k⟩
        refine ⟨_, h3, _, h4, ?_⟩
        dsimp only [L2.tNil]
        exact put_place_ok hx hl ha hr2 fun H1 s1 => ⟨_, h6, _, _, _, rfl, .int _, .int _, trivial, fun H2 s2 => ⟨_, rfl, iteF (k H2 (s1.trans s2))⟩⟩)) 
      (pss_one (ps_conv (t' := tLE K) (ps_if (pt_not (pt_val (pe_c0 GSame hr (by decide) rfl (pa_cons (pe_cx GPutEntry hr (by decide) rfl passF (pa_cons (pv 3) (pa_cons (pv 4) (pa_cons pe_str pa_nil)))) (pa_cons (pe_op op_catA (pe_op op_catA (pe_slice sl_tupA (pv 3) po_none (po_some (pv 6))) (pe_tup (pa_cons (pe_tup (pa_cons (pv 4) (pa_cons pe_str pa_nil))) pa_nil))) (pe_slice sl_tupA (pv 3) (po_some (pv 6)) po_none)) pa_nil))))) 
        (pss_one (ps_ret pe_bl)) pss_nil) (by
        rintro D σ H ⟨line, a, ns, es, h3, h4, h6, hx, hl, hl2, ha, hr2, k⟩
        refine ⟨_, h3, _, h4, ?_⟩
        dsimp only [L2.tNil]
        refine put_entry_ok (z := .str (Str.ofString "new")) (it := .str (Str.ofString "new")) hx hl hl2 ha hr2 (.str _) trivial fun p hp v H1 s1 f => ?_
        have ep : p = ((es.map (·.1)).filter fun s => !HT.lexLt ns s).length := place_count hp
        rw [← ep] at h6
        have hS : InD [] H1 := fun b hb => nomatch hb
        have hx1 : Dp K (offS [] H1) line (.tuple (es.map enD)) := by
          rw [offS_nil]
          exact dp_same s1 hx
        have pr : PV K [] (tVar 4) σ H1 (intsD ns) := pv_var h4 (by
          rw [offS_nil]
          exact dp_same s1 (rkv_dp ha))
        have pn : PN (tVar 6) σ ((p : Nat) : Int) := pn_v h6
        have pt : PV K [] (tTup (tCons (tTup (tCons (tVar 4) (tCons (tC (.str (Str.ofString "new"))) tNil))) tNil)) σ H1 (.tuple [enD (ns, .str (Str.ofString "new"))]) := pv_tup hS (pvs_cons (pv_tup hS (pvs_cons pr (pvs_cons pv_str pvs_nil)) (by show 2 ≤ 1000; decide)) pvs_nil) (by show 1 ≤ 1000; decide)
        have l1 : (es.map enD).length ≤ 900 := by
          rw [List.length_map]
          exact hl2
        have pc := pv_cat hS (pv_cat hS (pv_take hS (pv_var h3 hx1) pn) pt (by
          rw [List.length_take]
          show min p _ + 1 ≤ 10000
          omega)) (pv_drop hS (pv_var h3 hx1) pn) (by
          rw [List.length_append, List.length_take, List.length_drop]
          show min p _ + 1 + _ ≤ 10000
          omega)
        refine pv_use pc fun v2 H2 s2 h2 => ⟨_, _, _, rfl, dp_same s2 f.dp, ?_, ?_, fun H3 s3 => ⟨_, rfl, iteF (k H3 (s1.trans (s2.trans s3)))⟩⟩
        · rw [offS_nil] at h2
          have e : ((es.map enD).take p ++ [enD (ns, .str (Str.ofString "new"))]) ++ (es.map enD).drop p = (es.take p ++ [(ns, PyData.str (Str.ofString "new"))] ++ es.drop p).map enD := by
            rw [List.map_append, List.map_append, List.map_take, List.map_drop]
            rfl
          rw [e] at h2
          exact h2
        · refine plainN_mono 5 6 _ (by decide) (plain_D ?_ fun e he => ?_)
          · rw [List.length_append, List.length_append, List.length_take, List.length_drop, List.length_singleton]
            omega
          · rcases List.mem_append.mp he with he | he
            · rcases List.mem_append.mp he with he | he
              · exact hl.2.1 e (List.mem_of_mem_take he)
              · obtain rfl := List.mem_singleton.mp he
                exact ⟨hr2, trivial⟩
            · exact hl.2.1 e (List.mem_of_mem_drop he))))))) 
    (pss_one (ps_ret pe_bl))))), ?_⟩

  refine ⟨tp, ca, rfl, hT, fun mn H1 m1 m2 R1 => ?_⟩
  refine ⟨_, rfl, _, rfl, by omega, by omega, fun Dl hDl => lc_range (lo := 0) (n := mn) (fun i H' => Same H1 H' ∧ ∃ acc, H' Dl = some (.lst acc) ∧ acc.length = i ∧ Made K H1 H' Dl acc (((List.range i).map longE).map enD)) ⟨same_new hDl, [], upd_same, rfl, fun _ _ => .nil⟩ ?_ ?_⟩
  · rintro i H' hi ⟨sm, acc, hD, hal, hm⟩
    refine ⟨rfl, _, rfl, _, _, rfl, rfl, ⟨by decide, by decide⟩, (by show 1 ≤ sizeLine; decide), fun p1 hp1 => ⟨_, rfl, (by show 2 ≤ sizeLine; decide), fun p2 hp2 => ?_⟩⟩
    have e0 : V.int ((0 + ((i : Nat) : Int)) / 3) = V.int ((i / 3 : Nat) : Int) := by
      have : (0 + ((i : Nat) : Int)) / 3 = ((i / 3 : Nat) : Int) := by omega
      rw [this]
    have e1 : V.int (0 + ((i : Nat) : Int)) = V.int (i : Nat) := by rw [Int.zero_add]
    have t1 : Same H' (upd H' p1 (.tup [.int ((0 + ((i : Nat) : Int)) / 3)])) := same_new hp1
    have t2 : Same (upd H' p1 (.tup [.int ((0 + ((i : Nat) : Int)) / 3)])) (upd (upd H' p1 (.tup [.int ((0 + ((i : Nat) : Int)) / 3)])) p2 (.tup [.ref p1, .int (0 + ((i : Nat) : Int))])) := same_new hp2
    have f2 : DpF K H' (upd (upd H' p1 (.tup [.int ((0 + ((i : Nat) : Int)) / 3)])) p2 (.tup [.ref p1, .int (0 + ((i : Nat) : Int))])) (.ref p2) (enD (longE i)) := fun H3 hk => by
      have k2 := hk p2 _ (t1.free hp2) upd_same
      have k1 := hk p1 _ hp1 (t2 _ _ upd_same)
      rw [e1] at k2
      rw [e0] at k1
      exact .tup (SqT.of k2) (.cons (.tup (SqT.of k1) (.cons (.int _) .nil)) (.cons (.int _) .nil))
    have t3 := t1.trans t2
    refine ⟨acc, t3 _ _ hD, small1000 (by omega), same_mut (sm.trans t3) hDl, acc ++ [.ref p2], upd_same, by rw [List.length_append]; show acc.length + 1 = i + 1; omega, ?_⟩
    rw [List.range_succ, List.map_append, List.map_append]
    exact Made.step sm hD t3 hm f2
  rintro H2 ⟨sm, acc, hD, hal, hm⟩
  refine ⟨Dl, acc, rfl, .inl ⟨SqL.of hD, fun l hl2 => ?_⟩⟩
  have s1 : Same H2 (upd H2 l (.tup acc)) := same_new hl2
  have fl : DpF K H1 (upd H2 l (.tup acc)) (.ref l) (lineD ((List.range mn).map longE)) := fun H3 hk => .tup (SqT.of (hk l _ (sm.free hl2) upd_same)) (hm H3 fun b u h1 _ h3 => hk b u h1 (s1 _ _ h3))
  revert fl s1
  generalize upd H2 l (.tup acc) = H3
  intro s1 fl
  have R3 := (R1.same sm).same s1
  have hln : Dp K (offS [tp] H3) (.ref l) (lineD ((List.range mn).map longE)) := by
    rw [off_del]
    exact fl.off R1.b
  have hok := long_ok mn (by omega)
  have hlen : ((List.range mn).map longE).length ≤ 900 := by rw [List.length_map, List.length_range]; omega
  refine ⟨tp, ca, mn, none, _, none, none, none, rfl, R3.b, m1, m2, fun H4 vt rs R4 hrl hrs hvt => ?_⟩
  obtain ⟨b, xs, rfl, hs, hxs, hxl⟩ := dp_tup hvt
  have R04 := R3.trans R4
  refine ⟨b, rfl, ⟨_, same_sqt offS_same hs⟩, for_tup (K := K) (a := b) (xs := xs) (fun i σ H' => Rn K tp ca H4 H' ∧ ∃ o4 o5 o6, σ = [some (.ref tp), some (.int (mn : Nat)), none, some (.ref l), o4, o5, o6]) ⟨Rn.refl R4.b, none, none, none, rfl⟩ (fun i σ H' _ hh => same_sqt offS_same (same_sqt (goT hh.1) hs)) ?_ ?_⟩
  · rintro i y σ H5 hi ⟨R5, o4, o5, o6, rfl⟩
    obtain ⟨d, hd, hy⟩ := dps_at hxs hi
    rw [List.getElem?_map] at hd
    obtain ⟨ns, hns, rfl⟩ := Option.map_eq_some_iff.mp hd
    have hre := hrs ns (List.mem_of_getElem? hns)
    obtain ⟨ra, rfl, hra⟩ := rank_sqt (dp_same (goT R5) hy) (rank_intsD hre)
    rw [rk_intsD] at hra
    have hl5 : Dp K (offS [tp] H5) (.ref l) (lineD ((List.range mn).map longE)) := dp_same (goT (R4.trans R5)) hln
    refine ⟨.ref l, ra, ns, _, _, _, _, _, rfl, dp_onS hl5, hok, same_sqt offS_same hra, hre, fun H6 s6 => ?_⟩
    have hl6 := dp_same (GoS.of (S := [tp]) s6) hl5
    have hra6 := same_sqt (GoS.of (S := [tp]) s6) hra
    refine ⟨_, ra, ns, _, rfl, rfl, rfl, dp_onS hl6, hok, same_sqt offS_same hra6, hre, fun H7 s7 => ?_⟩
    have hl7 := dp_same (GoS.of (S := [tp]) s7) hl6
    have hra7 := same_sqt (GoS.of (S := [tp]) s7) hra6
    refine ⟨_, ra, ns, _, rfl, rfl, rfl, dp_onS hl7, hok, hlen, same_sqt offS_same hra7, hre, fun H8 s8 => ?_⟩
    exact ⟨((R5.same s6).same s7).same s8, _, _, _, rfl⟩
  · rintro σ H5 ⟨R5, o4, o5, o6, rfl⟩
    exact q H5 (R04.trans R5)
end
end K23
set_option Elab.async false
set_option linter.all false
set_option maxRecDepth 100000
set_option maxHeartbeats 4000000
namespace L2
open PySem PySem.Spec PyProof.Rows
section
variable {X : Cx} {j k : Nat} {ps ks : List Str} {sp : Sp} {x : Str} {p pos : Pos} {kws : List Keyword} {tk : TA} {g : {α : Type} → List α → List α}
theorem pe_kw0 (c : CalX X.prog X.w X.K X.mg X.base CX0 k x ps sp) (D : KwAt X.K X.mg x ps ks g) (hr : Room j X.A) (hk : k ≤ j) (hg : Gl X x) (hkw : PK X kws tk)
    (hdb : (x == ("__debug__" : Str)) = false := by decide) (hall : (backToKw pos (keywordEach kws X.env)).all (·.1.isSome) = true := by rfl) (hks : (backToKw pos (keywordEach kws X.env)).filterMap (·.1) = ks := by rfl)
    (hpl : ((backTo pos (starEach [] X.env)).any (·.1) || (backToKw pos (keywordEach kws X.env)).any (·.1.isNone)) = false := by rfl) :
    PE X (.Call (.Name x p) [] kws pos) (tCallKS sp ks.length g (fun _ => E0) tk) := pe_kw c D hr hk hg (fun _ _ _ _ _ _ _ h => h.elim) hkw hdb hall hks hpl
end
end L2
namespace K23
open PySem PySem.Spec PyProof.Rows L2 Dt K23S
/-! ### shaped data -/
def Shp (n : Nat) (d : PyData) : Prop := d.canLay0 = true ∧ d.depth ≤ n
theorem shps {n : Nat} : ∀ {ds : List PyData}, (∀ e ∈ ds, Shp n e) → PyData.canLayAll0 ds = true ∧ PyData.depthAll ds ≤ n
  | [], _ => ⟨rfl, Nat.zero_le _⟩
  | d :: ds, h => by
    obtain ⟨h1, h2⟩ := shps (n := n) (ds := ds) fun e he => h e (List.mem_cons_of_mem _ he)
    obtain ⟨h3, h4⟩ := h d (List.mem_cons_self ..)
    rw [PyData.canLayAll0, PyData.depthAll, h1, h3]
    exact ⟨rfl, by omega⟩
theorem shp_tup {n : Nat} {ds : List PyData} (h : ∀ e ∈ ds, Shp n e) : Shp (n + 1) (.tuple ds) := by
  obtain ⟨h1, h2⟩ := shps h
  unfold Shp
  rw [PyData.canLay0, PyData.depth]
  exact ⟨h1, by omega⟩
theorem shp_lst {n : Nat} {ds : List PyData} (h : ∀ e ∈ ds, Shp n e) : Shp (n + 1) (.list ds) := by
  obtain ⟨h1, h2⟩ := shps h
  unfold Shp
  rw [PyData.canLay0, PyData.depth]
  exact ⟨h1, by omega⟩
theorem shp_int {n : Nat} {i : Int} : Shp n (.int i) := by
  unfold Shp
  rw [PyData.canLay0, PyData.depth]
  exact ⟨rfl, Nat.zero_le _⟩
theorem shp_ints {n : Nat} {l : List Int} : Shp (n + 1) (intsD l) := shp_tup fun e he => by
  obtain ⟨i, _, rfl⟩ := List.mem_map.mp he
  exact shp_int
theorem Shp.mono {n m : Nat} {d : PyData} (h : Shp n d) (k : n ≤ m) : Shp m d := ⟨h.1, Nat.le_trans h.2 k⟩
theorem Shp.ok {n : Nat} {d : PyData} (h : Shp n d) (k : n ≤ 64) : SeqAt.shaped d = true := by
  unfold SeqAt.shaped
  rw [h.1, decide_eq_true (Nat.le_trans h.2 k)]
  rfl
theorem eqv_ints (ns ms : List Int) : PyData.eqv (intsD ns) (intsD ms) = decide (ns = ms) := by
  unfold intsD
  rw [PyData.eqv]
  exact PySem.W.ked_eqvAll ns ms
/-! ### what a refusal tells -/
def words4 : List Str := ["place", "named place", "entry", "named entry"]
def refD (z : Str) : PyData := .tuple [.str "refused", .str z, .int (-1)]
def BadXY (z : Str) (d r : PyData) : Prop := (z = "line" ∧ lineOf d = false) ∨ (z = "rank" ∧ lineOf d = true ∧ rankOf r = false)
theorem ask_bad {K : PySem.W.Frag} {H : Hp} {Q : VK} {E : XK} {w z : Str} {x y t : V} {d r it : PyData} (hw : w ∈ words4) (hx : Dp K H x d) (hy : Dp K H y r) (ht : Dp K H t it) (hl : ∀ ds, d = .tuple ds → ds.length ≤ 1000000) (hb : BadXY z d r)
    (q : Refd K H Q z) : spAsk K 6 [.str w, x, y, t] H Q E := by
  have hP : AskPlace K x y H Q := by
    refine ⟨d, r, hx, hy, hl, fun e => ?_, fun e1 e2 => ?_, fun ds p H' e e1 e2 _ _ => ?_⟩
    · rcases hb with ⟨rfl, _⟩ | ⟨_, h, _⟩
      · exact q
      · rw [h] at e; exact nomatch e
    · rcases hb with ⟨_, h⟩ | ⟨rfl, _, _⟩
      · rw [h] at e1; exact nomatch e1
      · exact q
    · rcases hb with ⟨_, h⟩ | ⟨_, _, h⟩
      · rw [h] at e1; exact nomatch e1
      · rw [h] at e2; exact nomatch e2
  have hE : AskEntry K 6 x y t H Q := by
    refine ⟨d, r, it, hx, hy, ht, hl, fun e => ?_, fun e1 e2 => ?_, fun ds p e e1 e2 _ => ?_⟩
    · rcases hb with ⟨rfl, _⟩ | ⟨_, h, _⟩
      · exact q
      · rw [h] at e; exact nomatch e
    · rcases hb with ⟨_, h⟩ | ⟨rfl, _, _⟩
      · rw [h] at e1; exact nomatch e1
      · exact q
    · rcases hb with ⟨_, h⟩ | ⟨_, _, h⟩
      · rw [h] at e1; exact nomatch e1
      · rw [h] at e2; exact nomatch e2
  simp only [words4, List.mem_cons, List.not_mem_nil, or_false] at hw
  rcases hw with rfl | rfl | rfl | rfl
  · exact ⟨_, _, _, _, rfl, .inl ⟨.inl rfl, hP⟩⟩
  · exact ⟨_, _, _, _, rfl, .inl ⟨.inr rfl, hP⟩⟩
  · exact ⟨_, _, _, _, rfl, .inr (.inl ⟨.inl rfl, hE⟩)⟩
  · exact ⟨_, _, _, _, rfl, .inr (.inl ⟨.inr rfl, hE⟩)⟩
/-- the tuple beside which it is held -/
def tRefD (K : PySem.W.Frag) (z : Str) : TE := fun σ H Q => ∀ v H', Same H H' → Dp K H' v (refD z) → Q v H'
theorem refd_t {K : PySem.W.Frag} {z : Str} (σ : L2.St) (H : Hp) (Q : VK) (h : tRefD K z σ H Q) : tTup (tCons (tC (.str (Str.ofString "refused"))) (tCons (tC (.str z)) (tCons (tUn (rU fun i => .int (-i)) (tC (.int 1))) tNil))) σ H Q :=
  ⟨_, rfl, (by show 3 ≤ sizeLine; decide), fun p hp => h _ _ (same_new hp) (.tup (SqT.of upd_same) (.cons (.str _) (.cons (.str _) (.cons (.int _) .nil))))⟩
theorem plain_refd {z : Str} : plainN 6 (refD z) := by
  refine ⟨by show 3 ≤ 1000; decide, fun e he => ?_⟩
  simp only [List.mem_cons, List.not_mem_nil, or_false] at he
  rcases he with rfl | rfl | rfl <;> trivial
end K23
set_option Elab.async false
set_option linter.all false
set_option maxRecDepth 100000
set_option maxHeartbeats 8000000
namespace K23
open PySem PySem.Spec PyProof.Rows L2 Dt K23S
/-! ### two neighbours changed about -/
theorem swap_go : ∀ (l : List (List Int × PyData)) (last : List Int) (a b : List Int × PyData) (t : List (List Int × PyData)), (∀ e ∈ l, RankI e.1) → RankI a.1 → RankI b.1 → lineGo last ((l ++ a :: b :: t).map enD) = true → lineGo last ((l ++ b :: a :: t).map enD) = decide (a.1 = b.1)
  | [], last, a, b, t, _, ha, hb, h => by
    have e1 : lineGo last (([] ++ a :: b :: t).map enD) = (rankOf (intsD a.1) && !HT.lexLt (rkInts (intsD a.1)) last && (rankOf (intsD b.1) && !HT.lexLt (rkInts (intsD b.1)) (rkInts (intsD a.1)) && lineGo (rkInts (intsD b.1)) (t.map enD))) := by
      show lineGo last (.tuple [intsD a.1, a.2] :: .tuple [intsD b.1, b.2] :: t.map enD) = _
      rw [lineGo_pair, lineGo_pair]
    have e2 : lineGo last (([] ++ b :: a :: t).map enD) = (rankOf (intsD b.1) && !HT.lexLt (rkInts (intsD b.1)) last && (rankOf (intsD a.1) && !HT.lexLt (rkInts (intsD a.1)) (rkInts (intsD b.1)) && lineGo (rkInts (intsD a.1)) (t.map enD))) := by
      show lineGo last (.tuple [intsD b.1, b.2] :: .tuple [intsD a.1, a.2] :: t.map enD) = _
      rw [lineGo_pair, lineGo_pair]
    rw [e1] at h
    rw [e2]
    rw [rank_intsD ha, rank_intsD hb, rk_intsD, rk_intsD] at *
    simp only [Bool.true_and, Bool.and_eq_true, Bool.not_eq_true'] at h
    obtain ⟨h1, h2, h3⟩ := h
    by_cases e : a.1 = b.1
    · rw [decide_eq_true e, ← e, h1, lex_irr, e, h3]
      rfl
    · rw [decide_eq_false e]
      have h4 : HT.lexLt a.1 b.1 = true := by
        cases h5 : HT.lexLt a.1 b.1 with
        | true => rfl
        | false => exact absurd (lex_tot _ _ h5 h2) e
      rw [h4]
      simp
  | e :: l, last, a, b, t, hl, ha, hb, h => by
    have he := hl e (List.mem_cons_self ..)
    have e1 : lineGo last ((e :: l ++ a :: b :: t).map enD) = (rankOf (intsD e.1) && !HT.lexLt (rkInts (intsD e.1)) last && lineGo (rkInts (intsD e.1)) ((l ++ a :: b :: t).map enD)) := lineGo_pair last (intsD e.1) e.2 _
    have e2 : lineGo last ((e :: l ++ b :: a :: t).map enD) = (rankOf (intsD e.1) && !HT.lexLt (rkInts (intsD e.1)) last && lineGo (rkInts (intsD e.1)) ((l ++ b :: a :: t).map enD)) := lineGo_pair last (intsD e.1) e.2 _
    rw [e1] at h
    rw [e2]
    simp only [Bool.and_eq_true] at h
    rw [h.1.1, h.1.2, swap_go l _ a b t (fun x hx => hl x (List.mem_cons_of_mem _ hx)) ha hb h.2]
    rfl
theorem swap_at {es : List (List Int × PyData)} (hl : LineOK es) {r : Nat} {a b : List Int × PyData} (ha : es[r]? = some a) (hb : es[r + 1]? = some b) : lineOf (lineD (es.take r ++ [b, a] ++ es.drop (r + 2))) = decide (a.1 = b.1) := by
  have h1 := (List.getElem?_eq_some_iff.mp ha)
  have h2 := (List.getElem?_eq_some_iff.mp hb)
  have e : es = es.take r ++ a :: b :: es.drop (r + 2) := by
    conv => lhs; rw [← List.take_append_drop r es]
    rw [List.drop_eq_getElem_cons h1.1, List.drop_eq_getElem_cons h2.1, h1.2, h2.2]
  have e3 : es.take r ++ [b, a] ++ es.drop (r + 2) = es.take r ++ b :: a :: es.drop (r + 2) := by simp
  rw [e3]
  have hg := hl.2.2
  refine swap_go _ [] a b _ (fun x hx => (hl.2.1 x (List.mem_of_mem_take hx)).1) (hl.2.1 a (List.mem_of_getElem? ha)).1 (hl.2.1 b (List.mem_of_getElem? hb)).1 ?_
  rw [← e]
  exact hg
/-! ### _law_kinds -/
def fullR : List Int := [rankB - 1, -(rankB - 1), 0, rankB - 1, -(rankB - 1), 1, -1, rankB - 1]
theorem full_rank : RankI fullR := by
  refine ⟨by show 8 ≤ 8; decide, fun i hi => ?_⟩
  simp only [fullR, List.mem_cons, List.not_mem_nil, or_false] at hi
  unfold rankB at *
  omega
theorem rank_drop {ns : List Int} (h : RankI ns) (r : Nat) : RankI (ns.drop r) := ⟨by rw [List.length_drop]; have := h.1; omega, fun i hi => h.2 i (List.mem_of_mem_drop hi)⟩
structure KS (K : PySem.W.Frag) (tp ca : Addr) (line : V) (es : List (List Int × PyData)) (H : Hp) : Prop where
  t : Tape K H tp ca
  d : Dp K (offS [tp] H) line (lineD es)
  ok : LineOK es
  n : es.length ≤ 50
theorem KS.rn {K : PySem.W.Frag} {tp ca : Addr} {line : V} {es : List (List Int × PyData)} {H H' : Hp} (h : KS K tp ca line es H) (r : Rn K tp ca H H') : KS K tp ca line es H' := ⟨r.b, dp_same (goT r) h.d, h.ok, h.n⟩
theorem KS.on {K : PySem.W.Frag} {tp ca : Addr} {line : V} {es : List (List Int × PyData)} {H : Hp} (h : KS K tp ca line es H) : Dp K H line (lineD es) := dp_onS h.d
def spKinds (K : PySem.W.Frag) : Sp := fun vs H Q _ => ∃ (tp ca : Addr) (line : V) (es : List (List Int × PyData)), vs = [.ref tp, line] ∧ KS K tp ca line es H ∧ ∀ H', Rn K tp ca H H' → Q (.bl true) H'
def tK1 (K : PySem.W.Frag) : TS := fun D σ H => ∃ (line : V) (es : List (List Int × PyData)), σ[1]? = some (some line) ∧ Dp K H line (lineD es) ∧ LineOK es ∧ ∀ H', Same H H' → D.nx σ H'
def tK4 (K : PySem.W.Frag) : TE := fun σ H Q => ∃ (tp ca : Addr), Tape K H tp ca ∧ σ[2]? = some (some (.int (rankB - 1))) ∧ ∀ H' a, Same H H' → SqT K (offS [tp] H') a (fullR.map V.int) → Q (.ref a) H'
def tK5d (K : PySem.W.Frag) : TE := fun σ H Q => ∃ (tp ca ga fa : Addr) (ns : List Int), Tape K H tp ca ∧ σ[0]? = some (some (.ref tp)) ∧ σ[3]? = some (some (.ref ga)) ∧ σ[4]? = some (some (.ref fa)) ∧ SqT K (offS [tp] H) ga (ns.map V.int) ∧ RankI ns ∧ SqT K (offS [tp] H) fa (fullR.map V.int) ∧
  ∀ H' v (rs : List (List Int)), Rn K tp ca H H' → (∀ r ∈ rs, RankI r) → Dp K (offS [tp] H') v (.tuple (rs.map intsD)) → Q v H'
def tK5i (K : PySem.W.Frag) : TS := fun D σ H => ∃ (a : Addr) (ns : List Int), σ[5]? = some (some (.ref a)) ∧ SqT K H a (ns.map V.int) ∧ RankI ns ∧ ∀ H', Same H H' → D.nx σ H'
def tThree (K : PySem.W.Frag) : TE := fun σ H Q => ∃ (a : Addr) (ns : List Int), σ[5]? = some (some (.ref a)) ∧ SqT K H a (ns.map V.int) ∧ ∀ v H', Same H H' → Dp K H' v (lineD [(ns, .none), (ns, .list [.int 1]), (ns, .bool true)]) → Q v H'
theorem op_dp {K : PySem.W.Frag} {S : List Addr} {σ : L2.St} {H : Hp} {te tf : TE} {d e : PyData} {r : R2} {Q : VK} (p1 : PV K S te σ H d) (p2 : PV K S tf σ H e) (q : ∀ x y H', Same H H' → Dp K (offS S H') x d → Dp K (offS S H') y e → r x y H' Q) : tOp r te tf σ H Q :=
  p1 H same_refl _ fun v1 H1 s1 h1 => p2 H1 s1 _ fun v2 H2 s2 h2 => q v1 v2 H2 (s1.trans s2) (dp_same (GoS.of s2) h1) h2
def tTurn (K : PySem.W.Frag) : TE := fun σ H Q => ∃ (tp : Addr) (line : V) (es : List (List Int × PyData)) (r : Nat) (a b : List Int × PyData), σ[1]? = some (some line) ∧ σ[6]? = some (some (.int (r : Nat))) ∧ es[r]? = some a ∧ es[r + 1]? = some b ∧ InD [tp] H ∧ Dp K (offS [tp] H) line (lineD es) ∧ es.length ≤ 50 ∧
  ∀ v H', Same H H' → Dp K (offS [tp] H') v (lineD (es.take r ++ [b, a] ++ es.drop (r + 2))) → Q v H'
def tEqR (K : PySem.W.Frag) : TE := fun σ H Q => ∃ (line : V) (es : List (List Int × PyData)) (r : Nat) (a b : List Int × PyData), σ[1]? = some (some line) ∧ σ[6]? = some (some (.int (r : Nat))) ∧ es[r]? = some a ∧ es[r + 1]? = some b ∧ RankI a.1 ∧ RankI b.1 ∧ Dp K H line (lineD es) ∧
  ∀ H', Same H H' → Q (.bl (decide (a.1 = b.1))) H'
def tK6 (K : PySem.W.Frag) : TS := fun D σ H => ∃ (tp ca : Addr) (line : V) (es : List (List Int × PyData)) (o2 o3 o4 o5 : Option V) (l : List (Option V)), σ = [some (.ref tp), some line, o2, o3, o4, o5, none, none] ++ l ∧ KS K tp ca line es H ∧ ∀ H' o6 o7, Rn K tp ca H H' → D.nx ([some (.ref tp), some line, o2, o3, o4, o5, o6, o7] ++ l) H'
def tK7i (K : PySem.W.Frag) : TS := fun D σ H => ∃ (bad sp : V) (db ds : PyData), σ[9]? = some (some bad) ∧ σ[10]? = some (some sp) ∧ Dp K H bad db ∧ Dp K H sp ds ∧ rankOf db = false ∧ lineOf ds = false ∧ ∀ H', Same H H' → D.nx σ H'
def tK7w (K : PySem.W.Frag) (ix iy : Nat) (z : Str) : TS := fun D σ H => ∃ (w : Str) (x y : V) (d r : PyData), σ[11]? = some (some (.str w)) ∧ w ∈ words4 ∧ σ[ix]? = some (some x) ∧ σ[iy]? = some (some y) ∧ Dp K H x d ∧ Dp K H y r ∧ (∀ ds, d = .tuple ds → ds.length ≤ 1000000) ∧ BadXY z d r ∧ ∀ H', Same H H' → D.nx σ H'
def tK8 (K : PySem.W.Frag) : TS := fun D σ H => ∃ (line : V) (a : Addr) (ns : List Int) (es : List (List Int × PyData)) (o0 o2 o4 o5 o6 o7 o8 o9 o10 o11 : Option V), σ = [o0, some line, o2, some (.ref a), o4, o5, o6, o7, o8, o9, o10, o11, none, none] ∧
  Dp K H line (lineD es) ∧ LineOK es ∧ SqT K H a (ns.map V.int) ∧ RankI ns ∧ ∀ H', Same H H' → D.nx [o0, some line, o2, some (.ref a), o4, o5, o6, o7, o8, o9, o10, o11, none, some (.int (((es.map (·.1)).filter fun s => !HT.lexLt ns s).length : Nat))] H'
theorem px_from {K : PySem.W.Frag} {tp ca fa : Addr} {σ : L2.St} {H : Hp} {fs : List Int} (hT : Tape K H tp ca) (h0 : σ[0]? = some (some (.ref tp))) (h4 : σ[4]? = some (some (.ref fa))) (hf : SqT K (offS [tp] H) fa (fs.map V.int)) :
    PX K tp ca (tSl (rSlA K) (tVar 4) (tPart (tCall (spDraw K) [] E0 (tCons (tVar 0) (tCons (tC (.int 8)) tNil)))) tNoPart) σ H (fun d => ∃ r : Nat, d = intsD (fs.drop r)) := fun H1 r1 Q q =>
  ⟨_, h4, _, h0, tp, ca, 8, rfl, r1.b, by decide, by decide, fun H2 r hr R2 => ⟨_, rfl, rSlA_off R2.b.inD (same_sqt (goT (r1.trans R2)) hf) fun t H3 s3 ht => q _ H3 _ (R2.same s3) ⟨r, rfl⟩ (by
    rw [cut_drop, ← List.map_drop] at ht
    exact rkv_dp ht)⟩⟩
section
variable {P : Program} {w : World} {K : PySem.W.Frag} {mg : Str → Option Value} {base : Heap} {C U fI fG B S PA : Addr}
theorem ok_kinds (D : DefAt K mg "_law_kinds" s_law_kinds ["tape", "line"]) (T : Txt K mg) (GDraw : CalX P w K mg base CX0 1 "_law_draw" ["tape", "many"] (spDraw K)) (GGreater : CalX P w K mg base CX0 1 "_law_greater" ["one", "other"] (spGreater K)) (GSame : CalX P w K mg base CX0 6 "_law_same" ["one", "other"] (spSame K 6)) (GIs : CalX P w K mg base CX0 1 "_law_is" ["told", "due"] spIs)
    (GIsLine : CalX P w K mg base CX0 3 "is_line" ["thing"] (spLine K)) (KIsLine : KwAt K mg "is_line" ["thing"] ["thing"] idL) (GIsRank : CalX P w K mg base CX0 2 "is_rank" ["thing"] (spRank K)) (KIsRank : KwAt K mg "is_rank" ["thing"] ["thing"] idL)
    (GRank : CalX P w K mg base CX0 2 "_law_rank" ["tape", "manner"] (spMkRank K)) (GBadRank : CalX P w K mg base CX0 2 "_law_bad_rank" ["tape"] (spBadRank K)) (GBadLine : CalX P w K mg base CX0 3 "_law_bad_line" ["tape", "line"] (spBadLine K)) (GAsk : CalX P w K mg base CX0 25 "_law_ask" ["word", "one", "two", "three"] (spAsk K 6)) : CalX P w K mg base CX0 26 "_law_kinds" ["tape", "line"] (spKinds K) := by
  refine D.ok sc_law_kinds (fun vs H Q E h => ?_) (fun f cdv A outer s H vs Q E hr h => ?_)
  · obtain ⟨tp, ca, line, es, rfl, _⟩ := h
    rfl
  obtain ⟨tp, ca, line, es, rfl, k0, q⟩ := h
  refine ⟨_, (pss_cons (ps_conv (t' := tK1 K) (ps_if (PW.pt (pw_or (pt_cmpR op_isnot_bl (pe_c0 GIsLine hr (by decide) rfl (pa_cons (pv 1) pa_nil)) pe_bl (nomark _)) (pw_or (pt_cmpR op_isnot_bl (by exact (pe_kw0 GIsLine KIsLine hr (by decide) rfl (by exact (pk_cons (pe_tup pa_nil) pk_nil)))) pe_bl (nomark _)) (pw_or1 (pt_cmpR op_isnot_bl (by exact (pe_kw0 GIsRank KIsRank hr (by decide) rfl (by exact (pk_cons (pe_tup pa_nil) pk_nil)))) pe_bl (nomark _)))))) 
      (pss_one (ps_ret pe_bl)) pss_nil) (by
        rintro D σ H ⟨line, es, h1, hx, hl, k⟩
        refine ⟨_, h1, line, _, rfl, hx, fun H1 s1 => ⟨_, _, rfl, rfl, _, rfl, ?_⟩⟩
        rw [hl.2.2]
        refine iteF ?_
        refine ⟨(by show 0 ≤ sizeLine; decide), fun p hp => ⟨rfl, .ref p, .tuple [], rfl, .tup (SqT.of upd_same) .nil, fun H2 s2 => ⟨_, _, rfl, rfl, _, rfl, ?_⟩⟩⟩
        refine iteF ?_
        refine ⟨(by show 0 ≤ sizeLine; decide), fun p2 hp2 => ⟨rfl, .ref p2, .tuple [], rfl, .tup (SqT.of upd_same) .nil, _, _, rfl, rfl, _, rfl, ?_⟩⟩
        refine iteF ?_
        exact k _ (s1.trans ((same_new hp).trans (s2.trans (same_new hp2)))))) 
    (pss_cons (ps_set (i := 2) sc_law_kinds.nd rfl (.inl rfl) (pe_op op_sub (pe_conv (t' := tC (.int rankB)) (pe_op op_shl pe_int pe_int) (shl_of (by decide) (by decide +kernel))) pe_int)) 
    (pss_cons (ps_set (i := 3) sc_law_kinds.nd rfl (.inr rfl) (pe_c0 GRank hr (by decide) rfl (pa_cons (pv 0) (pa_cons (pe_c0 GDraw hr (by decide) rfl (pa_cons (pv 0) (pa_cons pe_int pa_nil))) pa_nil)))) 
    (pss_cons (ps_set (i := 4) sc_law_kinds.nd rfl (.inl rfl) (pe_conv (t' := tK4 K) (pe_tup (pa_cons (pv 2) (pa_cons (pe_un un_neg (pv 2)) (pa_cons pe_int (pa_cons (pv 2) (pa_cons (pe_un un_neg (pv 2)) (pa_cons pe_int (pa_cons (pe_un un_neg pe_int) (pa_cons (pv 2) pa_nil))))))))) (by
        rintro σ H Q ⟨tp, ca, hT, h2, k⟩
        have hS := hT.inD
        have n1 : PN (tVar 2) σ (rankB - 1) := pn_v h2
        have n2 := pn_neg n1
        have hp := pv_tup (K := K) hS (pvs_cons (pv_n n1) (pvs_cons (pv_n n2) (pvs_cons (pv_int (i := 0)) (pvs_cons (pv_n n1) (pvs_cons (pv_n n2) (pvs_cons (pv_int (i := 1)) (pvs_cons (pv_n (pn_neg (pn_c (k := 1)))) (pvs_cons (pv_n n1) pvs_nil)))))))) (by show 8 ≤ 1000; decide)
        refine pv_use hp fun v H' s hv => ?_
        have hv' : Dp K (offS [tp] H') v (intsD fullR) := hv
        obtain ⟨a, rfl, ha⟩ := rank_sqt hv' (rank_intsD full_rank)
        rw [rk_intsD] at ha
        exact k H' a s ha))) 
    (pss_cons (ps_for PassesOwn.never rfl (pi_tup (pe_conv (t' := tK5d K) (pe_tup (pa_cons (pv 3) (pa_cons (pv 4) (pa_cons (pe_slice sl_tupA (pv 4) (po_some (pe_c0 GDraw hr (by decide) rfl (pa_cons (pv 0) (pa_cons pe_int pa_nil)))) po_none) pa_nil)))) (by
        rintro σ H Q ⟨tp, ca, ga, fa, ns, hT, h0, h3, h4, hg, hns, hf, k⟩
        have h := px_tup (pxs_cons (px_var h3 (rkv_dp hg)) (pxs_cons (px_var h4 (rkv_dp hf)) (pxs_cons (px_from hT h0 h4 hf) pxs_nil))) (by
          rintro ds ⟨d1, r1, rfl, h1, d2, r2, rfl, h2, d3, r3, rfl, h3, rfl⟩
          show 3 ≤ 1000
          decide)
        refine px_use hT h fun v H' d R hd hv => ?_
        obtain ⟨_, rfl, d1, _, rfl, rfl, d2, _, rfl, rfl, d3, _, rfl, ⟨r, rfl⟩, rfl⟩ := hd
        refine k H' v [ns, fullR, fullR.drop r] R (fun s hs => ?_) hv
        simp only [List.mem_cons, List.not_mem_nil, or_false] at hs
        rcases hs with rfl | rfl | rfl
        · exact hns
        · exact full_rank
        · exact rank_drop full_rank r))) (pg_name (i := 5) sc_law_kinds.nd rfl (Or.inl rfl)) 
      (pss_one (ps_conv (t' := tK5i K) (ps_if (PW.pt (pw_or (pt_cmpR op_isnot_bl (pe_c0 GIsRank hr (by decide) rfl (pa_cons (pv 5) pa_nil)) pe_bl (nomark _)) (pw_or1 (pt_cmpR op_isnot_bl (pe_c0 GIsLine hr (by decide) rfl (pa_cons (pe_conv (t' := tThree K) (pe_tup (pa_cons (pe_tup (pa_cons (pv 5) (pa_cons pe_non pa_nil))) (pa_cons (pe_tup (pa_cons (pv 5) (pa_cons (pe_lst (pa_cons pe_int pa_nil)) pa_nil))) (pa_cons (pe_tup (pa_cons (pv 5) (pa_cons pe_bl pa_nil))) pa_nil)))) (by
        rintro σ H Q ⟨a, ns, h5, ha, k⟩
        have hS : InD [] H := fun b hb => nomatch hb
        have hv : PV K [] (tVar 5) σ H (intsD ns) := pv_var h5 (by
          rw [offS_nil]
          exact rkv_dp ha)
        have hp := pv_tup hS (pvs_cons (pv_tup hS (pvs_cons hv (pvs_cons pv_non pvs_nil)) (by show 2 ≤ 1000; decide)) (pvs_cons (pv_tup hS (pvs_cons hv (pvs_cons (pv_lst hS (pvs_cons (pv_int (i := 1)) pvs_nil) (by show 1 ≤ 1000; decide)) pvs_nil)) (by show 2 ≤ 1000; decide)) (pvs_cons (pv_tup hS (pvs_cons hv (pvs_cons (pv_bl (b := true)) pvs_nil)) (by show 2 ≤ 1000; decide)) pvs_nil))) (by show 3 ≤ 1000; decide)
        refine pv_use hp fun v H1 s1 hv1 => ?_
        rw [offS_nil] at hv1
        exact k v H1 s1 hv1)) pa_nil)) pe_bl (nomark _))))) 
        (pss_one (ps_ret pe_bl)) pss_nil) (by
        rintro D σ H ⟨a, ns, h5, ha, hns, k⟩
        refine ⟨_, h5, .ref a, intsD ns, rfl, rkv_dp ha, _, _, rfl, rfl, _, rfl, ?_⟩
        rw [rank_intsD hns]
        refine iteF ?_
        refine ⟨a, ns, h5, ha, fun v H1 s1 hv1 => ?_⟩
        have e : lineOf (lineD [(ns, .none), (ns, .list [.int 1]), (ns, .bool true)]) = true := line_D (fun e he => by
          simp only [List.mem_cons, List.not_mem_nil, or_false] at he
          rcases he with rfl | rfl | rfl <;> exact hns) (by
          simp only [List.pairwise_cons, List.mem_cons, List.not_mem_nil, or_false, List.Pairwise.nil]
          refine ⟨?_, ?_, ?_⟩
          · rintro x (rfl | rfl) <;> exact lex_irr ns
          · rintro x rfl
            exact lex_irr ns
          · exact ⟨(fun x hx => nomatch hx), trivial⟩)
        refine ⟨v, lineD [(ns, .none), (ns, .list [.int 1]), (ns, .bool true)], rfl, hv1, fun H2 s2 => ⟨_, _, rfl, rfl, _, rfl, ?_⟩⟩
        rw [e]
        exact iteF (k H2 (s1.trans s2)))))) 
    (pss_cons (ps_conv (t' := tK6 K) (ps_if (pt_cmpR op_gt (pe_callB call_len_seq (by rfl) T.len PySem.boot_len (pa_cons (pv 1) pa_nil)) pe_int (nomark _)) 
      (pss_cons (ps_set (i := 6) sc_law_kinds.nd rfl (.inl rfl) (pe_c0 GDraw hr (by decide) rfl (pa_cons (pv 0) (pa_cons (pe_op op_sub (pe_callB call_len_seq (by rfl) T.len PySem.boot_len (pa_cons (pv 1) pa_nil)) pe_int) pa_nil)))) 
      (pss_cons (ps_set (i := 7) sc_law_kinds.nd rfl (.inl rfl) (pe_conv (t' := tTurn K) (pe_op op_catA (pe_op op_catA (pe_slice sl_tupA (pv 1) po_none (po_some (pv 6))) (pe_tup (pa_cons (pe_ix ix_tup (pv 1) (pe_op op_add (pv 6) pe_int) (fun _ _ => rfl)) (pa_cons (pe_ix ix_tup (pv 1) (pv 6) (fun _ _ => rfl)) pa_nil)))) (pe_slice sl_tupA (pv 1) (po_some (pe_op op_add (pv 6) pe_int)) po_none)) (by
        rintro σ H Q ⟨tp, line, es, r, a, b, h1, h6, ha, hb, hS, hx, hn, k⟩
        have hx' : Dp K (offS [tp] H) line (.tuple (es.map enD)) := hx
        have n6 : PN (tVar 6) σ ((r : Nat) : Int) := pn_v h6
        have n1 : PN (tOp (rI0 fun i j => .int (i + j)) (tVar 6) (tC (.int 1))) σ ((r + 1 : Nat) : Int) := pn_add n6 pn_c
        have n2 : PN (tOp (rI0 fun i j => .int (i + j)) (tVar 6) (tC (.int 2))) σ ((r + 2 : Nat) : Int) := pn_add n6 pn_c
        have pl := pv_var (K := K) h1 hx'
        have l1 : (es.map enD).length ≤ 50 := by
          rw [List.length_map]
          exact hn
        have p := pv_cat hS (pv_cat hS (pv_take hS pl n6) (pv_tup hS (pvs_cons (pv_ix pl n1 (by rw [List.getElem?_map, hb]; rfl)) (pvs_cons (pv_ix pl n6 (by rw [List.getElem?_map, ha]; rfl)) pvs_nil)) (by show 2 ≤ 1000; decide)) (by
          rw [List.length_take]
          show min r _ + 2 ≤ 10000
          omega)) (pv_drop hS pl n2) (by
          rw [List.length_append, List.length_take, List.length_drop]
          show min r _ + 2 + _ ≤ 10000
          omega)
        refine pv_use p fun v H' s hv => k v H' s ?_
        have e : (es.map enD).take r ++ [enD b, enD a] ++ (es.map enD).drop (r + 2) = (es.take r ++ [b, a] ++ es.drop (r + 2)).map enD := by
          rw [List.map_append, List.map_append, List.map_take, List.map_drop]
          rfl
        rw [e] at hv
        exact hv))) 
      (pss_one (ps_if (pt_not (pt_val (pe_c0 GIs hr (by decide) rfl (pa_cons (pe_c0 GIsLine hr (by decide) rfl (pa_cons (pv 7) pa_nil)) (pa_cons (pe_conv (t' := tEqR K) (pe_cmpR (op_eqD hr.units) (pe_ix ix_tup (pe_ix ix_tup (pv 1) (pv 6) (fun _ _ => rfl)) pe_int (fun _ _ => rfl)) (pe_ix ix_tup (pe_ix ix_tup (pv 1) (pe_op op_add (pv 6) pe_int) (fun _ _ => rfl)) pe_int (fun _ _ => rfl)) (nomark _)) (by
        rintro σ H Q ⟨line, es, r, a, b, h1, h6, ha, hb, hra, hrb, hx, k⟩
        have hx' : Dp K (offS [] H) line (.tuple (es.map enD)) := by
          rw [offS_nil]
          exact hx
        have n6 : PN (tVar 6) σ ((r : Nat) : Int) := pn_v h6
        have n1 : PN (tOp (rI0 fun i j => .int (i + j)) (tVar 6) (tC (.int 1))) σ ((r + 1 : Nat) : Int) := pn_add n6 pn_c
        have pl := pv_var (K := K) h1 hx'
        have p1 : PV K [] (tOp (rIxT K) (tOp (rIxT K) (tVar 1) (tVar 6)) (tC (.int 0))) σ H (intsD a.1) := pv_ix (k := 0) (pv_ix (d := .tuple [intsD a.1, a.2]) pl n6 (by rw [List.getElem?_map, ha]; rfl)) pn_c rfl
        have p2 : PV K [] (tOp (rIxT K) (tOp (rIxT K) (tVar 1) (tOp (rI0 fun i j => .int (i + j)) (tVar 6) (tC (.int 1)))) (tC (.int 0))) σ H (intsD b.1) := pv_ix (k := 0) (pv_ix (d := .tuple [intsD b.1, b.2]) pl n1 (by rw [List.getElem?_map, hb]; rfl)) pn_c rfl
        refine op_dp p1 p2 fun x y H' s hd he => ?_
        rw [offS_nil] at hd he
        refine ⟨_, _, hd, he, (shp_ints (n := 1)).ok (by decide), (shp_ints (n := 1)).ok (by decide), ?_⟩
        rw [eqv_ints]
        exact k H' s)) pa_nil))))) 
        (pss_one (ps_ret pe_bl)) pss_nil)))) pss_nil) (by
        rintro D σ H ⟨tp, ca, line, es, o2, o3, o4, o5, l, rfl, k0, k⟩
        obtain ⟨b, xs, rfl, hs, hxs, hxl⟩ := dp_tup k0.d
        rw [List.length_map] at hxl
        refine ⟨_, rfl, b, xs, rfl, .inr (same_sqt offS_same hs), ⟨_, _, rfl, rfl, _, rfl, ?_⟩⟩
        refine ite2 (fun c => ?_) (fun c => k H none none (Rn.refl k0.t))
        have c2 := of_decide_eq_true c
        have e : ((xs.length : Nat) : Int) - 1 = ((es.length - 1 : Nat) : Int) := by omega
        refine ⟨_, rfl, _, rfl, b, xs, rfl, .inr (same_sqt offS_same hs), _, _, rfl, rfl, tp, ca, es.length - 1, congrArg (fun z => [V.ref tp, V.int z]) e, k0.t, by omega, by have := k0.n; omega, fun H1 r hr1 R1 => ?_⟩
        have k1 := k0.rn R1
        have ha : es[r]? = some (es[r]'(by omega)) := List.getElem?_eq_getElem (by omega)
        have hb : es[r + 1]? = some (es[r + 1]'(by omega)) := List.getElem?_eq_getElem (by omega)
        refine ⟨tp, _, es, r, _, _, rfl, rfl, ha, hb, k1.t.inD, k1.d, k1.n, fun v H2 s2 hv => ?_⟩
        have R2 : Rn K tp ca H1 H2 := Rn.of k1.t s2
        have k2 := k1.rn R2
        refine ⟨_, rfl, v, _, rfl, dp_onS hv, fun H3 s3 => ⟨_, es, r, _, _, rfl, rfl, ha, hb, (k0.ok.2.1 _ (List.mem_of_getElem? ha)).1, (k0.ok.2.1 _ (List.mem_of_getElem? hb)).1, dp_same s3 k2.on, fun H4 s4 => ⟨_, _, rfl, _, rfl, ?_⟩⟩⟩
        rw [swap_at k0.ok ha hb, decide_eq_true rfl]
        exact iteF (k H4 _ _ (R1.trans ((R2.same s3).same s4))))) 
    (pss_cons (ps_for PassesOwn.never rfl (pi_range1 (by rfl) T.range (pa_cons pe_int pa_nil)) (pg_name (i := 8) sc_law_kinds.nd rfl (Or.inl rfl)) 
      (pss_cons (ps_set (i := 9) sc_law_kinds.nd rfl (.inl rfl) (pe_c0 GBadRank hr (by decide) rfl (pa_cons (pv 0) pa_nil))) 
      (pss_cons (ps_set (i := 10) sc_law_kinds.nd rfl (.inl rfl) (pe_c0 GBadLine hr (by decide) rfl (pa_cons (pv 0) (pa_cons (pv 1) pa_nil)))) 
      (pss_cons (ps_conv (t' := tK7i K) (ps_if (PW.pt (pw_or (pt_cmpR op_isnot_bl (pe_c0 GIsRank hr (by decide) rfl (pa_cons (pv 9) pa_nil)) pe_bl (nomark _)) (pw_or1 (pt_cmpR op_isnot_bl (pe_c0 GIsLine hr (by decide) rfl (pa_cons (pv 10) pa_nil)) pe_bl (nomark _))))) 
        (pss_one (ps_ret pe_bl)) pss_nil) (by
        rintro D σ H ⟨bad, sp, db, ds, h9, h10, dx, dy, hb, hs, k⟩
        refine ⟨_, h9, bad, db, rfl, dx, _, _, rfl, rfl, _, rfl, ?_⟩
        rw [hb]
        refine iteF ?_
        refine ⟨_, h10, sp, ds, rfl, dy, fun H1 s1 => ⟨_, _, rfl, rfl, _, rfl, ?_⟩⟩
        rw [hs]
        exact iteF (k H1 s1))) 
      (pss_one (ps_for PassesOwn.never rfl (pi_tup (pe_tup (pa_cons pe_str (pa_cons pe_str (pa_cons pe_str (pa_cons pe_str pa_nil)))))) (pg_name (i := 11) sc_law_kinds.nd rfl (Or.inl rfl)) 
        (pss_cons (ps_conv (t' := tK7w K 10 3 "line") (ps_if (pt_not (pt_val (pe_c0 GSame hr (by decide) rfl (pa_cons (pe_c0 GAsk hr (by decide) rfl (pa_cons (pv 11) (pa_cons (pv 10) (pa_cons (pv 3) (pa_cons pe_int pa_nil))))) (pa_cons (pe_conv (t' := tRefD K "line") (pe_tup (pa_cons pe_str (pa_cons pe_str (pa_cons (pe_un un_neg pe_int) pa_nil)))) refd_t) pa_nil))))) 
          (pss_one (ps_ret pe_bl)) pss_nil) (by
        rintro D σ H ⟨w, x, y, d, r, h11, hw, hx, hy, dx, dy, hl, hb, k⟩
        refine ⟨_, h11, _, hx, _, hy, ?_⟩
        dsimp only [L2.tNil, L2.tCons, L2.tC]
        refine ask_bad (it := .int 1) hw dx dy (.int _) hl hb fun v H1 s1 f => ?_
        exact fun u H2 s2 hu => ⟨_, _, _, rfl, dp_same s2 f.dp, hu, plain_refd, fun H3 s3 => ⟨_, rfl, iteF (k H3 (s1.trans (s2.trans s3)))⟩⟩)) 
        (pss_cons (ps_conv (t' := tK7w K 10 9 "line") (ps_if (pt_not (pt_val (pe_c0 GSame hr (by decide) rfl (pa_cons (pe_c0 GAsk hr (by decide) rfl (pa_cons (pv 11) (pa_cons (pv 10) (pa_cons (pv 9) (pa_cons pe_int pa_nil))))) (pa_cons (pe_conv (t' := tRefD K "line") (pe_tup (pa_cons pe_str (pa_cons pe_str (pa_cons (pe_un un_neg pe_int) pa_nil)))) refd_t) pa_nil))))) 
          (pss_one (ps_ret pe_bl)) pss_nil) (by
        rintro D σ H ⟨w, x, y, d, r, h11, hw, hx, hy, dx, dy, hl, hb, k⟩
        refine ⟨_, h11, _, hx, _, hy, ?_⟩
        dsimp only [L2.tNil, L2.tCons, L2.tC]
        refine ask_bad (it := .int 1) hw dx dy (.int _) hl hb fun v H1 s1 f => ?_
        exact fun u H2 s2 hu => ⟨_, _, _, rfl, dp_same s2 f.dp, hu, plain_refd, fun H3 s3 => ⟨_, rfl, iteF (k H3 (s1.trans (s2.trans s3)))⟩⟩)) 
        (pss_one (ps_conv (t' := tK7w K 1 9 "rank") (ps_if (pt_not (pt_val (pe_c0 GSame hr (by decide) rfl (pa_cons (pe_c0 GAsk hr (by decide) rfl (pa_cons (pv 11) (pa_cons (pv 1) (pa_cons (pv 9) (pa_cons pe_int pa_nil))))) (pa_cons (pe_conv (t' := tRefD K "rank") (pe_tup (pa_cons pe_str (pa_cons pe_str (pa_cons (pe_un un_neg pe_int) pa_nil)))) refd_t) pa_nil))))) 
          (pss_one (ps_ret pe_bl)) pss_nil) (by
        rintro D σ H ⟨w, x, y, d, r, h11, hw, hx, hy, dx, dy, hl, hb, k⟩
        refine ⟨_, h11, _, hx, _, hy, ?_⟩
        dsimp only [L2.tNil, L2.tCons, L2.tC]
        refine ask_bad (it := .int 1) hw dx dy (.int _) hl hb fun v H1 s1 f => ?_
        exact fun u H2 s2 hu => ⟨_, _, _, rfl, dp_same s2 f.dp, hu, plain_refd, fun H3 s3 => ⟨_, rfl, iteF (k H3 (s1.trans (s2.trans s3)))⟩⟩))))))))))) 
    (pss_cons (ps_conv (t' := tK8 K) (ps_set (i := 13) sc_law_kinds.nd rfl (.inl rfl) (pe_callB call_len_seq (by rfl) T.len PySem.boot_len (pa_cons (pe_lc (own := [("pair", 12)]) (g := gName 12) (by rfl) sc_law_kinds.nd (pi_tup (pv 1)) (blkOk_by (own := [("pair", 12)]) (N := N_law_kinds) (sc := defScope s_law_kinds) (by decide +kernel)) (fun _ _ _ _ _ => pg_name (i := 12) sc_law_kinds.nd rfl (Or.inl rfl)) (fun _ _ _ _ _ => by exact (pts_one (pt_not (pt_val (pe_c0 GGreater hr (by decide) rfl (pa_cons (pe_ix (show IxR _ (rIxT K) from ix_tup) (pv 12) pe_int (fun _ _ => rfl)) (pa_cons (pv 3) pa_nil))))))) (fun _ _ _ _ _ => by exact (pv 12))) pa_nil))) (by
        rintro D σ H ⟨line, a, ns, es, o0, o2, o4, o5, o6, o7, o8, o9, o10, o11, rfl, hx, hl, ha, hr2, k⟩
        exact due_read (σ := [o0, some line, o2, some (.ref a), o4, o5, o6, o7, o8, o9, o10, o11, none, none]) (il := 1) (ip := 12) (ir := 3) rfl rfl hx hl ha hr2 (fun _ => rfl) (fun _ => rfl) (fun _ => rfl) fun H6 s6 => k H6 s6)) 
    (pss_one (ps_ret (pe_c0 GSame hr (by decide) rfl (pa_cons (pe_c0 GAsk hr (by decide) rfl (pa_cons pe_str (pa_cons (pv 1) (pa_cons (pv 3) (pa_cons pe_non pa_nil))))) (pa_cons (pv 13) pa_nil))))))))))))), ?_⟩

  refine ⟨line, es, rfl, k0.on, k0.ok, fun H1 s1 => ?_⟩
  have R1 : Rn K tp ca H H1 := Rn.of k0.t s1
  refine ⟨_, _, rfl, rfl, ?_⟩
  have k1 := k0.rn R1
  refine ⟨_, rfl, _, rfl, tp, ca, 4, rfl, k1.t, by decide, by decide, fun H2 r hr2 R2 => ⟨tp, ca, r, rfl, R2.b, fun H3 ga ns R3 hns hf3 hga => ?_⟩⟩
  have R23 := R2.trans R3
  have k3 := k1.rn R23
  have ng : ga ∉ [tp] := R2.b.inD.new hf3
  have hgo : SqT K (offS [tp] H3) ga (ns.map V.int) := sqt_offS hga ng
  refine ⟨tp, ca, k3.t, rfl, fun H4 fa s4 hfa => ?_⟩
  have R4 : Rn K tp ca H3 H4 := Rn.of k3.t s4
  have k4 := k3.rn R4
  have hgo4 := same_sqt (goT R4) hgo
  refine ⟨tp, ca, ga, fa, ns, k4.t, rfl, rfl, rfl, hgo4, hns, hfa, fun H5 v rs R5 hrs hv => ?_⟩
  have k5 := k4.rn R5
  obtain ⟨b, xs, rfl, hs, hxs, hxl⟩ := dp_tup hv
  refine ⟨b, rfl, ⟨_, same_sqt offS_same hs⟩, for_tup (K := K) (a := b) (xs := xs) (fun i σ H' => Rn K tp ca H5 H' ∧ ∃ o5, σ = [some (.ref tp), some line, some (.int (rankB - 1)), some (.ref ga), some (.ref fa), o5, none, none, none, none, none, none, none, none]) ⟨Rn.refl k5.t, none, rfl⟩ (fun i σ H' _ hh => same_sqt offS_same (same_sqt (goT hh.1) hs)) ?_ ?_⟩
  · rintro i y σ H6 hi ⟨R6, o5, rfl⟩
    obtain ⟨d, hd, hy⟩ := dps_at hxs hi
    rw [List.getElem?_map] at hd
    obtain ⟨ms, hms, rfl⟩ := Option.map_eq_some_iff.mp hd
    have hre := hrs ms (List.mem_of_getElem? hms)
    obtain ⟨ra, rfl, hra⟩ := rank_sqt (dp_same (goT R6) hy) (rank_intsD hre)
    rw [rk_intsD] at hra
    exact ⟨ra, ms, rfl, same_sqt offS_same hra, hre, fun H7 s7 => ⟨R6.same s7, _, rfl⟩⟩
  rintro σ H6 ⟨R6, o5, rfl⟩
  have k6 := k5.rn R6
  have hgo6 := same_sqt (goT (R5.trans R6)) hgo4
  have R16 := R1.trans (R23.trans (R4.trans (R5.trans R6)))
  refine ⟨tp, ca, line, es, _, _, _, _, _, rfl, k6, fun H7 o6 o7 R7 => ?_⟩
  have k7 := k6.rn R7
  have hgo7 := same_sqt (goT R7) hgo6
  refine ⟨_, rfl, by decide, by decide, for_range (lo := 0) (n := 4) (fun i σ H' => Rn K tp ca H7 H' ∧ ∃ o8 o9 o10 o11, σ = [some (.ref tp), some line, some (.int (rankB - 1)), some (.ref ga), some (.ref fa), o5, o6, o7, o8, o9, o10, o11, none, none]) ⟨Rn.refl k7.t, none, none, none, none, rfl⟩ ?_ ?_⟩
  · rintro i8 σ H8 hi ⟨R8, o8, o9, o10, o11, rfl⟩
    have k8 := k7.rn R8
    refine ⟨_, rfl, tp, ca, rfl, k8.t, fun H9 bad db R9 hb fb => ?_⟩
    have k9 := k8.rn R9
    have hb9 : Dp K (offS [tp] H9) bad db := fb.offS k8.t.inD
    refine ⟨_, rfl, _, rfl, tp, ca, line, es, rfl, k9.t, k9.d, k9.ok, fun H10 spv ds R10 hds hsp => ?_⟩
    have k10 := k9.rn R10
    have hb10 := dp_same (goT R10) hb9
    have hgo10 := same_sqt (goT (R8.trans (R9.trans R10))) hgo7
    refine ⟨bad, spv, db, ds, rfl, rfl, dp_onS hb10, dp_onS hsp, hb.2.1, hds.1, fun H11 s11 => ?_⟩
    have hb11 := dp_same (GoS.of (S := [tp]) s11) hb10
    have hsp11 := dp_same (GoS.of (S := [tp]) s11) hsp
    have k11 := k10.rn (Rn.of k10.t s11)
    have hgo11 := same_sqt (GoS.of (S := [tp]) s11) hgo10
    refine ⟨(by show 4 ≤ sizeLine; decide), fun wp hwp => ?_⟩
    have sw := same_new (o := .tup (words4.map V.str)) hwp
    have hb12 := dp_same (GoS.of (S := [tp]) sw) hb11
    have hsp12 := dp_same (GoS.of (S := [tp]) sw) hsp11
    have k12 := k11.rn (Rn.of k11.t sw)
    have hgo12 := same_sqt (GoS.of (S := [tp]) sw) hgo11
    have hwt : SqT K (upd H11 wp (.tup (words4.map V.str))) wp (words4.map V.str) := SqT.of upd_same
    have R8w : Rn K tp ca H7 (upd H11 wp (.tup (words4.map V.str))) := ((R8.trans (R9.trans R10)).same s11).same sw
    refine ⟨wp, rfl, ⟨_, hwt⟩, for_tup (K := K) (a := wp) (xs := words4.map V.str) (fun i σ H' => Same (upd H11 wp (.tup (words4.map V.str))) H' ∧ ∃ o11, σ = [some (.ref tp), some line, some (.int (rankB - 1)), some (.ref ga), some (.ref fa), o5, o6, o7, some (.int (0 + (i8 : Nat))), some bad, some spv, o11, none, none]) ⟨same_refl, _, rfl⟩ (fun i σ H' _ hh => same_sqt hh.1 hwt) ?_ ?_⟩
    · rintro j y σ H12 hj ⟨s12, ow, rfl⟩
      rw [List.getElem?_map] at hj
      obtain ⟨w, hw, rfl⟩ := Option.map_eq_some_iff.mp hj
      have hw4 := List.mem_of_getElem? hw
      have d1 := dp_same s12 (dp_onS hsp12)
      have d2 := dp_same s12 (dp_onS hb12)
      have d3 := rkv_dp (same_sqt s12 (same_sqt offS_same hgo12))
      have d4 := dp_same s12 k12.on
      have big : ∀ dl, ds = .tuple dl → dl.length ≤ 1000000 := fun dl e => Nat.le_trans (hds.2 dl e) (by decide)
      refine ⟨w, _, _, ds, _, rfl, hw4, rfl, rfl, d1, d3, big, .inl ⟨rfl, hds.1⟩, fun H13 s13 => ?_⟩
      refine ⟨w, _, _, ds, _, rfl, hw4, rfl, rfl, dp_same s13 d1, dp_same s13 d2, big, .inl ⟨rfl, hds.1⟩, fun H14 s14 => ?_⟩
      refine ⟨w, _, _, _, _, rfl, hw4, rfl, rfl, dp_same s14 (dp_same s13 d4), dp_same s14 (dp_same s13 d2), k12.ok.len, .inr ⟨rfl, k12.ok.2.2, hb.2.1⟩, fun H15 s15 => ?_⟩
      exact ⟨((s12.trans s13).trans s14).trans s15, _, rfl⟩
    · rintro σ H12 ⟨s12, ow, rfl⟩
      exact ⟨R8w.same s12, _, _, _, _, rfl⟩
  rintro σ H8 ⟨R8, o8, o9, o10, o11, rfl⟩
  have k8 := k7.rn R8
  have hgo8 := same_sqt (goT R8) hgo7
  refine ⟨line, ga, ns, es, _, _, _, _, _, _, _, _, _, _, rfl, k8.on, k8.ok, same_sqt offS_same hgo8, hns, fun H9 s9 => ?_⟩
  have k9 := k8.rn (Rn.of k8.t s9)
  have hgo9 := same_sqt (GoS.of (S := [tp]) s9) hgo8
  refine ⟨_, rfl, _, rfl, _, _, _, _, rfl, .inl ⟨.inl rfl, ask_place k9.on k9.ok (same_sqt offS_same hgo9) hns fun H10 s10 => ⟨_, rfl, _, _, _, rfl, .int _, .int _, trivial, fun H11 s11 => q H11 ?_⟩⟩⟩
  exact R16.trans (R7.trans ((((R8.same s9).same s10)).same s11))
end
end K23
set_option Elab.async false
set_option linter.all false
set_option maxRecDepth 100000
set_option maxHeartbeats 4000000
namespace K23
open PySem PySem.Spec PyProof.Rows L2 Dt K23S
/-! ### lists of data beside a tape -/
def LVal (K : PySem.W.Frag) (S : List Addr) (H : Hp) (v : V) (ds : List PyData) : Prop := ∃ l xs, v = .ref l ∧ offS S H l = some (.lst xs) ∧ DpAll K (offS S H) xs ds
def PL (K : PySem.W.Frag) (S : List Addr) (te : TE) (σ : L2.St) (H : Hp) (ds : List PyData) : Prop := ∀ H1, Same H H1 → ∀ Q : VK, (∀ v H2, Same H1 H2 → LVal K S H2 v ds → Q v H2) → te σ H1 Q
section
variable {K : PySem.W.Frag} {S : List Addr} {σ : L2.St} {H : Hp} {te tf tg : TE} {ta : TA} {d : PyData} {ds es : List PyData}
theorem LVal.go {H' : Hp} {v : V} (h : LVal K S H v ds) (g : GoS S H H') : LVal K S H' v ds := by
  obtain ⟨l, xs, rfl, h1, h2⟩ := h
  exact ⟨l, xs, rfl, g _ _ h1, dps_same g h2⟩
theorem pl_use {Q : VK} (h : PL K S te σ H ds) (q : ∀ v H', Same H H' → LVal K S H' v ds → Q v H') : te σ H Q := h H same_refl Q q
theorem pl_var {i : Nat} {v : V} (h : σ[i]? = some (some v)) (hd : LVal K S H v ds) : PL K S (tVar i) σ H ds := fun H1 s Q q => ⟨v, h, q v H1 same_refl (hd.go (GoS.of s))⟩
theorem pl_lst (hS : InD S H) (h : PVs K S ta σ H ds) (hl : ds.length ≤ 1000) : PL K S (tLst ta) σ H ds := fun H1 s Q q => h H1 s _ fun vs H2 s2 h2 => by
  have hl1 := dps_len h2
  have hsl := sizeLine_eq
  exact ⟨by omega, fun p hp => q _ _ (s2.trans (same_new hp)) ⟨p, vs, rfl, by rw [offS_ne (((hS.same s).same s2).new hp)]; exact upd_same, dps_same (GoS.of (same_new hp)) h2⟩⟩
theorem pl_cat (hS : InD S H) (ha : PL K S te σ H ds) (hb : PL K S tf σ H es) (hl : ds.length + es.length ≤ 10000) : PL K S (tOp rCat te tf) σ H (ds ++ es) := fun H1 s Q q => ha H1 s _ fun v1 H2 s2 h2 => hb H2 (s.trans s2) _ fun v2 H3 s3 h3 => by
  obtain ⟨a, xs, rfl, a1, a2⟩ := h2.go (GoS.of s3)
  obtain ⟨b, ys, rfl, b1, b2⟩ := h3
  have l1 := dps_len a2
  have l2 := dps_len b2
  have hsl := sizeLine_eq
  exact ⟨a, b, xs, ys, rfl, rfl, (offS_some a1).2, (offS_some b1).2, by omega, fun p hp => q _ _ (s2.trans (s3.trans (same_new hp))) ⟨p, xs ++ ys, rfl, by rw [offS_ne ((((hS.same s).same s2).same s3).new hp)]; exact upd_same, dps_same (GoS.of (same_new hp)) (dps_app a2 b2)⟩⟩
theorem rSlL_off (hS : InD S H) {v : V} {lo hi : Option Int} {Q : VK} (hv : LVal K S H v ds) (q : ∀ p H2 xs, Same H H2 → DpAll K (offS S H) xs ds → offS S H2 p = some (.lst (cutV xs lo hi)) → Q (.ref p) H2) : rSlL K v lo hi H Q := by
  obtain ⟨a, xs, rfl, a1, a2⟩ := hv
  exact ⟨a, xs, rfl, SqL.of (offS_some a1).2, fun p hp => q p _ xs (same_new hp) a2 (by rw [offS_ne (hS.new hp)]; exact upd_same)⟩
theorem pl_take (hS : InD S H) (ha : PL K S te σ H ds) {k : Nat} (hk : PN tf σ (k : Nat)) : PL K S (tSl (rSlL K) te tNoPart (tPart tf)) σ H (ds.take k) := fun H1 s Q q => ha H1 s _ fun v1 H2 s2 h2 => hk H2 _ ⟨_, rfl, rSlL_off ((hS.same s).same s2) h2 fun p H3 xs s3 h3 h4 => by
  rw [cut_take] at h4
  exact q _ H3 (s2.trans s3) ⟨p, _, rfl, h4, dps_take k (dps_same (GoS.of s3) h3)⟩⟩
theorem pl_drop (hS : InD S H) (ha : PL K S te σ H ds) {k : Nat} (hk : PN tf σ (k : Nat)) : PL K S (tSl (rSlL K) te (tPart tf) tNoPart) σ H (ds.drop k) := fun H1 s Q q => ha H1 s _ fun v1 H2 s2 h2 => hk H2 _ ⟨_, rfl, rSlL_off ((hS.same s).same s2) h2 fun p H3 xs s3 h3 h4 => by
  rw [cut_drop] at h4
  exact q _ H3 (s2.trans s3) ⟨p, _, rfl, h4, dps_drop k (dps_same (GoS.of s3) h3)⟩⟩
theorem cut_mid (xs : List V) {i j : Nat} (h1 : i ≤ xs.length) (h2 : j ≤ xs.length) : cutV xs (some (i : Int)) (some (j : Int)) = (xs.drop i).take (j - i) := by
  have a : HT.sIx xs.length 0 (some (i : Int)) = i := by
    unfold HT.sIx
    simp
    rw [if_neg (by omega)]
    omega
  have b : HT.sIx xs.length xs.length (some (j : Int)) = j := by
    unfold HT.sIx
    simp
    rw [if_neg (by omega)]
    omega
  unfold cutV
  rw [a, b]
theorem pl_mid (hS : InD S H) (ha : PL K S te σ H ds) {i j : Nat} (hi : PN tf σ (i : Nat)) (hj : PN tg σ (j : Nat)) (h1 : i ≤ ds.length) (h2 : j ≤ ds.length) : PL K S (tSl (rSlL K) te (tPart tf) (tPart tg)) σ H ((ds.drop i).take (j - i)) := fun H1 s Q q => ha H1 s _ fun v1 H2 s2 h2' => hi H2 _ ⟨_, rfl, hj H2 _ ⟨_, rfl, rSlL_off ((hS.same s).same s2) h2' fun p H3 xs s3 h3 h4 => by
  have hl := dps_len h3
  rw [cut_mid xs (by omega) (by omega)] at h4
  exact q _ H3 (s2.trans s3) ⟨p, _, rfl, h4, dps_take _ (dps_drop i (dps_same (GoS.of s3) h3))⟩⟩⟩
theorem pv_ixL (ha : PL K S te σ H ds) {k : Nat} (hk : PN tf σ (k : Nat)) (hd : ds[k]? = some d) : PV K S (tOp (rIxL K) te tf) σ H d := fun H1 s Q q => ha H1 s _ fun v1 H2 s2 h2 => by
  obtain ⟨a, xs, rfl, a1, a2⟩ := h2
  have hl := dps_len a2
  have hkl := (List.getElem?_eq_some_iff.mp hd).1
  have hx : xs[k]? = some (xs[k]'(by omega)) := List.getElem?_eq_getElem (by omega)
  obtain ⟨d', e1, e2⟩ := dps_at a2 hx
  rw [hd] at e1
  obtain rfl := Option.some.inj e1
  exact hk H2 _ ⟨a, xs, _, _, rfl, rfl, SqL.of (offS_some a1).2, atI_nat hx, q _ H2 s2 e2⟩
def rTupQ (K : PySem.W.Frag) : List V → Hp → VK → Prop := fun xs H Q => ∃ p ys, xs = [.ref p] ∧ ((SqL K H p ys ∧ ∀ l, H l = none → Q (.ref l) (upd H l (.tup ys))) ∨ (SqT K H p ys ∧ Q (.ref p) H))
theorem pv_tupL (hS : InD S H) (ha : PL K S te σ H ds) {r : List V → Hp → VK → Prop} (hr : r = rTupQ K) : PV K S (tCB r (tCons te tNil)) σ H (.tuple ds) := fun H1 s Q q => ha H1 s _ fun v1 H2 s2 h2 => by
  subst hr
  obtain ⟨a, xs, rfl, a1, a2⟩ := h2
  exact ⟨a, xs, rfl, .inl ⟨SqL.of (offS_some a1).2, fun l hl => q _ _ (s2.trans (same_new hl)) (.tup (sqt_offS upd_same (((hS.same s).same s2).new hl)) (dps_same (GoS.of (same_new hl)) a2))⟩⟩
theorem pn_lenL {v : V} {i : Nat} {r : List V → Hp → VK → Prop} {Q : VK} (hr : r = rLenQ K) (h : σ[i]? = some (some v)) (hd : LVal K S H v ds) (q : Q (.int (ds.length : Nat)) H) : tCB r (tCons (tVar i) tNil) σ H Q := by
  subst hr
  obtain ⟨a, xs, rfl, a1, a2⟩ := hd
  refine ⟨_, h, a, xs, rfl, .inl (SqL.of (offS_some a1).2), ?_⟩
  rw [dps_len a2]
  exact q
end
/-! ### shapes as data -/
theorem dtRow_kids : ∀ ds : List PyData, (dtRow ds).kids = ds.map dtOf
  | [] => by
    unfold dtRow
    rfl
  | d :: ds => by
    unfold dtRow
    show dtOf d :: (dtRow ds).kids = _
    rw [dtRow_kids ds]
    rfl
theorem dtRow_len (ds : List PyData) : (dtRow ds).len = ds.length := by
  rw [← kids_len, dtRow_kids, List.length_map]
theorem dtRow_isx : ∀ ds : List PyData, (dtRow ds).isx = false
  | [] => by unfold dtRow; rfl
  | _ :: _ => by unfold dtRow; rfl
theorem dt_tup (ds : List PyData) : dtOf (.tuple ds) = dtRow ds := by unfold dtOf; rfl
theorem good_tup {ds : List PyData} (h : ds.length ≤ 6) (hk : ∀ d ∈ ds, (dtOf d).good 1 = true) : (dtOf (.tuple ds)).good 1 = true := by
  rw [dt_tup]
  unfold Dt.good Dt.here
  rw [dtRow_isx, dtRow_len, decide_eq_true h, kids_good, dtRow_kids]
  have e : (ds.map dtOf).all (good 1) = true := List.all_eq_true.mpr fun t ht => by
    obtain ⟨d, hd, rfl⟩ := List.mem_map.mp ht
    exact hk d hd
  rw [e]
  by_cases h0 : 0 < ds.length
  · rw [decide_eq_true h0, decide_eq_false (show ¬ ds.length < 1 by omega)]
    rfl
  · rw [decide_eq_false h0]
    rfl
def nd (d : PyData) : Nat := (dtOf d).nodes
def nds (ds : List PyData) : Nat := (ds.map nd).sum
theorem nds_app (a b : List PyData) : nds (a ++ b) = nds a + nds b := by
  unfold nds
  rw [List.map_append, List.sum_append]
theorem nd_row : ∀ ds : List PyData, (dtRow ds).nodes = nds ds + 1
  | [] => by unfold dtRow; rfl
  | d :: ds => by
    unfold dtRow
    show (dtOf d).nodes + (dtRow ds).nodes = _
    rw [nd_row ds]
    unfold nds nd
    rw [List.map_cons, List.sum_cons]
    omega
theorem nd_tup (ds : List PyData) : nd (.tuple ds) = nds ds + 1 := by
  unfold nd
  rw [dt_tup, nd_row]
theorem ht_row {h : Nat} : ∀ ds : List PyData, (∀ d ∈ ds, (dtOf d).ht ≤ h) → (dtRow ds).ht ≤ h + 1
  | [], _ => by unfold dtRow; exact Nat.zero_le _
  | d :: ds, hd => by
    unfold dtRow
    show max ((dtOf d).ht + 1) (dtRow ds).ht ≤ h + 1
    have h1 := hd d (List.mem_cons_self ..)
    have h2 := ht_row ds fun x hx => hd x (List.mem_cons_of_mem _ hx)
    omega
theorem size_nodes : ∀ t : Dt, t.size + 1 ≤ 2 * t.nodes
  | .x => Nat.le_refl 2
  | .o => Nat.le_refl 2
  | .c k r => by
    have h1 := size_nodes k
    have h2 := size_nodes r
    show k.size + r.size + 1 + 1 ≤ 2 * (k.nodes + r.nodes)
    omega
/-- the parts that a form is made of -/
structure Fs (s : Nat) (ds : List PyData) : Prop where
  ne : ds ≠ []
  good : ∀ d ∈ ds, (dtOf d).good 1 = true
  ht : ∀ d ∈ ds, (dtOf d).ht + s + ds.length ≤ 12
  nd : nds ds + s + ds.length ≤ 21
  sh : ∀ d ∈ ds, Shp (13 - (s + ds.length)) d
theorem Fs.pos {s : Nat} {ds : List PyData} (h : Fs s ds) : 1 ≤ ds.length := by
  have := h.ne
  cases ds with
  | nil => exact absurd rfl this
  | cons _ _ => exact Nat.le_add_left 1 _
theorem Fs.le {s : Nat} {ds : List PyData} (h : Fs s ds) : s + ds.length ≤ 12 := by
  cases ds with
  | nil => exact absurd rfl h.ne
  | cons d ds => have := h.ht d (List.mem_cons_self ..); omega
def leafD : PyData := .tuple []
theorem fs_start {n : Nat} (h1 : 1 ≤ n) (h2 : n ≤ 9) : Fs 3 (List.replicate n leafD) := by
  have e : dtOf leafD = .o := by
    unfold leafD
    rw [dt_tup]
    unfold dtRow
    rfl
  refine ⟨fun z => ?_, fun d hd => ?_, fun d hd => ?_, ?_, fun d hd => ?_⟩
  · have := congrArg List.length z
    rw [List.length_replicate] at this
    rw [List.length_nil] at this
    omega
  · rw [(List.mem_replicate.mp hd).2, e]
    rfl
  · rw [(List.mem_replicate.mp hd).2, e, List.length_replicate]
    show 0 + 3 + n ≤ 12
    omega
  · have e2 : K23.nd leafD = 1 := by
      unfold K23.nd
      rw [e]
      rfl
    have e3 : ∀ m : Nat, nds (List.replicate m leafD) = m := by
      intro m
      induction m with
      | zero => rfl
      | succ m ih =>
        rw [List.replicate_succ]
        show K23.nd leafD + nds (List.replicate m leafD) = m + 1
        rw [ih, e2]
        omega
    rw [e3, List.length_replicate]
    omega
  · rw [(List.mem_replicate.mp hd).2]
    have : Shp (0 + 1) leafD := shp_tup fun e he => nomatch he
    exact this.mono (by rw [List.length_replicate]; omega)
theorem split_at {ds : List PyData} {r : Nat} {d : PyData} (h : ds[r]? = some d) : ds = ds.take r ++ [d] ++ ds.drop (r + 1) := by
  obtain ⟨h1, h2⟩ := List.getElem?_eq_some_iff.mp h
  conv => lhs; rw [← List.take_append_drop r ds, List.drop_eq_getElem_cons h1, h2]
  simp
/-- a run of them becomes one -/
theorem fs_fold {s s' : Nat} {ds : List PyData} {r w : Nat} (h : Fs s ds) (h1 : 1 ≤ w) (h6 : w ≤ 6) (hr : r + w ≤ ds.length) (hs : s' + 1 + 1 ≤ s + w) (hs' : s' ≤ s) : Fs s' (ds.take r ++ [.tuple ((ds.drop r).take w)] ++ ds.drop (r + w)) := by
  have hlen : (ds.take r ++ [PyData.tuple ((ds.drop r).take w)] ++ ds.drop (r + w)).length = ds.length + 1 - w := by
    rw [List.length_append, List.length_append, List.length_take, List.length_drop, List.length_singleton]
    omega
  have hw : ((ds.drop r).take w).length = w := by
    rw [List.length_take, List.length_drop]
    omega
  have hm : ∀ d ∈ (ds.drop r).take w, d ∈ ds := fun d hd => List.mem_of_mem_drop (List.mem_of_mem_take hd)
  have key : ∀ {p : PyData → Prop}, (∀ d ∈ ds, p d) → p (.tuple ((ds.drop r).take w)) → ∀ d ∈ ds.take r ++ [PyData.tuple ((ds.drop r).take w)] ++ ds.drop (r + w), p d := fun ha hb d hd => by
    rcases List.mem_append.mp hd with hd | hd
    · rcases List.mem_append.mp hd with hd | hd
      · exact ha d (List.mem_of_mem_take hd)
      · obtain rfl := List.mem_singleton.mp hd
        exact hb
    · exact ha d (List.mem_of_mem_drop hd)
  refine ⟨fun z => ?_, key h.good (good_tup (by omega) fun d hd => h.good d (hm d hd)), ?_, ?_, ?_⟩
  · rw [z] at hlen
    have : ds.length + 1 - w = 0 := hlen.symm
    omega
  · rw [hlen]
    refine key (fun d hd => ?_) ?_
    · have := h.ht d hd
      omega
    · rw [dt_tup]
      have := ht_row (h := 12 - s - ds.length) ((ds.drop r).take w) fun d hd => by
        have := h.ht d (hm d hd)
        omega
      have := h.le
      omega
  · rw [nds_app, nds_app, hlen]
    have e : nds [PyData.tuple ((ds.drop r).take w)] = nds ((ds.drop r).take w) + 1 := by
      show nd _ + 0 = _
      rw [nd_tup]
    have e2 : nds ds = nds (ds.take r) + (nds ((ds.drop r).take w) + nds (ds.drop (r + w))) := by
      rw [← nds_app, ← nds_app]
      congr 1
      have : ds.drop (r + w) = (ds.drop r).drop w := by rw [List.drop_drop]
      rw [this, List.take_append_drop, List.take_append_drop]
    have := h.nd
    rw [e]
    omega
  · rw [hlen]
    have := h.le
    refine key (fun d hd => (h.sh d hd).mono (by omega)) ?_
    have q : Shp (13 - (s + ds.length) + 1) (.tuple ((ds.drop r).take w)) := shp_tup fun e he => h.sh e (hm e he)
    exact q.mono (by omega)
/-- what a form is -/
structure FormOK (d : PyData) : Prop where
  good : (dtOf d).good 1 = true
  nd : nd d ≤ 20
  ht : (dtOf d).ht ≤ 11
  sh : Shp 13 d
theorem fs_form {s : Nat} {ds : List PyData} {d : PyData} (h : Fs s ds) (hd : d ∈ ds) : FormOK d := by
  have hp := h.pos
  refine ⟨h.good d hd, ?_, ?_, (h.sh d hd).mono (by omega)⟩
  · have h1 := h.nd
    have : K23.nd d ≤ nds ds := by
      obtain ⟨r, hr⟩ := List.mem_iff_getElem?.mp hd
      have := congrArg nds (split_at hr)
      rw [nds_app, nds_app] at this
      have e : nds [d] = K23.nd d := Nat.add_zero _
      omega
    omega
  · have := h.ht d hd
    omega
theorem FormOK.size {d : PyData} (h : FormOK d) : (dtOf d).size ≤ 100000 := by
  have := size_nodes (dtOf d)
  have := h.nd
  unfold K23.nd at this
  omega
end K23
set_option Elab.async false
set_option linter.all false
set_option maxRecDepth 100000
set_option maxHeartbeats 8000000
namespace K23
open PySem PySem.Spec PyProof.Rows L2 Dt K23S
/-! ### _law_form -/
def stFo (tp : Addr) (o1 : Option V) (v : V) (s : Nat) (o4 o5 o6 : Option V) : L2.St := [some (.ref tp), o1, some v, some (.int (s : Nat)), o4, o5, o6]
def spForm (K : PySem.W.Frag) : Sp := fun vs H Q _ => ∃ (tp ca : Addr), vs = [.ref tp] ∧ Tape K H tp ca ∧ ∀ H' v d, Rn K tp ca H H' → FormOK d → Dp K (offS [tp] H') v d → Q v H'
def tParts (K : PySem.W.Frag) : TS := fun D σ H => ∃ (tp ca : Addr), σ = [some (.ref tp), none, none, none, none, none, none] ∧ Tape K H tp ca ∧ ∀ H' v n, Rn K tp ca H H' → 1 ≤ n → n ≤ 9 → LVal K [tp] H' v (List.replicate n leafD) → D.nx [some (.ref tp), none, some v, none, none, none, none] H'
def tF1 (K : PySem.W.Frag) : TS := fun D σ H => ∃ (tp ca : Addr) (o1 : Option V) (v : V) (s : Nat) (o4 o5 o6 : Option V) (ds : List PyData), σ = stFo tp o1 v s o4 o5 o6 ∧ Tape K H tp ca ∧ LVal K [tp] H v ds ∧ Fs s ds ∧
  ∀ H' v' s' o5' ds', Rn K tp ca H H' → LVal K [tp] H' v' ds' → Fs s' ds' → D.nx (stFo tp o1 v' s' o4 o5' o6) H'
def tF2 (K : PySem.W.Frag) : TS := fun D σ H => ∃ (tp ca : Addr) (o1 : Option V) (v : V) (s : Nat) (o4 o5 o6 : Option V) (ds : List PyData), σ = stFo tp o1 v s o4 o5 o6 ∧ Tape K H tp ca ∧ LVal K [tp] H v ds ∧ Fs s ds ∧
  ∀ H' v' o5' o6' ds', Rn K tp ca H H' → LVal K [tp] H' v' ds' → Fs s ds' → D.nx (stFo tp o1 v' s o4 o5' o6') H'
def tWd (K : PySem.W.Frag) : TS := fun D σ H => ∃ (tp ca : Addr) (o1 : Option V) (v : V) (s : Nat) (o4 o5 : Option V) (w : Nat) (ds : List PyData), σ = stFo tp o1 v s o4 o5 (some (.int (w : Nat))) ∧ Tape K H tp ca ∧ LVal K [tp] H v ds ∧ 2 ≤ w ∧ w ≤ 6 ∧ w ≤ ds.length ∧
  ∀ H' (w' : Nat), Rn K tp ca H H' → 2 ≤ w' → w' ≤ 6 → w' ≤ ds.length → D.nx (stFo tp o1 v s o4 o5 (some (.int (w' : Nat)))) H'
def tOne (K : PySem.W.Frag) : TE := fun σ H Q => ∃ (tp : Addr) (v : V) (r : Nat) (ds : List PyData) (d : PyData), σ[2]? = some (some v) ∧ σ[5]? = some (some (.int (r : Nat))) ∧ InD [tp] H ∧ LVal K [tp] H v ds ∧ ds[r]? = some d ∧ ds.length ≤ 100 ∧
  ∀ H' v', Same H H' → LVal K [tp] H' v' (ds.take r ++ [.tuple [d]] ++ ds.drop (r + 1)) → Q v' H'
def tMerge (K : PySem.W.Frag) : TE := fun σ H Q => ∃ (tp : Addr) (v : V) (r w : Nat) (ds : List PyData), σ[2]? = some (some v) ∧ σ[5]? = some (some (.int (r : Nat))) ∧ σ[6]? = some (some (.int (w : Nat))) ∧ InD [tp] H ∧ LVal K [tp] H v ds ∧ r + w ≤ ds.length ∧ ds.length ≤ 100 ∧
  ∀ H' v', Same H H' → LVal K [tp] H' v' (ds.take r ++ [.tuple ((ds.drop r).take w)] ++ ds.drop (r + w)) → Q v' H'
theorem fs_single {s r : Nat} {ds : List PyData} {d : PyData} (h : Fs s ds) (hs : 1 ≤ s) (hd : ds[r]? = some d) : Fs (s - 1) (ds.take r ++ [.tuple [d]] ++ ds.drop (r + 1)) := by
  have h1 := (List.getElem?_eq_some_iff.mp hd).1
  have e : (ds.drop r).take 1 = [d] := by
    rw [List.drop_eq_getElem_cons h1, (List.getElem?_eq_some_iff.mp hd).2]
    rfl
  have := fs_fold (s' := s - 1) (r := r) (w := 1) h (Nat.le_refl 1) (by decide) (by omega) (by omega) (by omega)
  rw [e] at this
  exact this
theorem minI (i j : Nat) : (if (j : Int) < (i : Int) then (j : Int) else (i : Int)) = ((min i j : Nat) : Int) := by
  by_cases h : j < i
  · rw [if_pos (by omega), Nat.min_eq_right (by omega)]
  · rw [if_neg (by omega), Nat.min_eq_left (by omega)]
section
variable {P : Program} {w : World} {K : PySem.W.Frag} {mg : Str → Option Value} {base : Heap} {C U fI fG B S PA : Addr}
theorem ok_form (D : DefAt K mg "_law_form" s_law_form ["tape"]) (T : Txt K mg) (GDraw : CalX P w K mg base CX0 1 "_law_draw" ["tape", "many"] (spDraw K)) : CalX P w K mg base CX0 2 "_law_form" ["tape"] (spForm K) := by
  refine D.ok sc_law_form (fun vs H Q E h => ?_) (fun f cdv A outer s H vs Q E hr h => ?_)
  · obtain ⟨tp, ca, rfl, _⟩ := h
    rfl
  obtain ⟨tp, ca, rfl, hT, q⟩ := h
  refine ⟨_, (pss_cons (ps_conv (t' := tParts K) (ps_setLc (i := 2) (own := [("k", 1)]) (g := gName 1) (tt := tYes) (by rfl) sc_law_form.nd rfl rfl (sw_true rfl rfl (by decide) (by decide)) (pi_range1 (by rfl) T.range (pa_cons (pe_op op_add (pe_c0 GDraw hr (by decide) rfl (pa_cons (pv 0) (pa_cons pe_int pa_nil))) pe_int) pa_nil)) (blkOk_by (own := [("k", 1)]) (N := N_law_form) (sc := defScope s_law_form) (by decide +kernel)) (fun _ _ _ _ _ => pg_name (i := 1) sc_law_form.nd rfl (Or.inl rfl)) (fun _ _ _ _ _ => pts_nil) (fun _ _ _ _ _ => by exact (pe_tup pa_nil))) (by
        rintro D σ H ⟨tp, ca, rfl, hT, k⟩
        refine ⟨_, rfl, tp, ca, 9, rfl, hT, by decide, by decide, fun H1 r hr1 R1 => ⟨_, _, rfl, rfl, _, rfl, by omega, by omega, fun Dl hDl => ?_⟩⟩
        refine lc_range (lo := 0) (n := r + 1) (fun i H' => Same H1 H' ∧ ∃ acc, H' Dl = some (.lst acc) ∧ acc.length = i ∧ Made K H1 H' Dl acc (List.replicate i leafD)) ⟨same_new hDl, [], upd_same, rfl, fun _ _ => .nil⟩ ?_ ?_
        · rintro i H' hi ⟨sm, acc, hD, hal, hm⟩
          refine ⟨rfl, (by show 0 ≤ sizeLine; decide), fun p hp => ⟨acc, (same_new hp) _ _ hD, small1000 (by omega), same_mut (sm.trans (same_new hp)) hDl, acc ++ [.ref p], upd_same, by rw [List.length_append]; show acc.length + 1 = i + 1; omega, ?_⟩⟩
          have f : DpF K H' (upd H' p (.tup [])) (.ref p) leafD := fun H3 hk => .tup (SqT.of (hk p _ hp upd_same)) .nil
          rw [List.replicate_succ']
          exact Made.step sm hD (same_new hp) hm f
        · rintro H2 ⟨sm, acc, hD, hal, hm⟩
          have R2 := R1.same sm
          have nD : Dl ∉ [tp] := R1.b.inD.new hDl
          refine k H2 (.ref Dl) (r + 1) R2 (by omega) (by omega) ⟨Dl, acc, rfl, by rw [offS_ne nD]; exact hD, hm _ fun b u h1 h2 h3 => ?_⟩
          rw [offS_ne (R1.b.inD.new h1)]
          exact h3)) 
    (pss_cons (ps_set (i := 3) sc_law_form.nd rfl (.inl rfl) pe_int) 
    (pss_cons (ps_for PassesOwn.never rfl (pi_range1 (by rfl) T.range (pa_cons pe_int pa_nil)) (pg_name (i := 4) sc_law_form.nd rfl (Or.inl rfl)) 
      (pss_cons (ps_conv (t' := tF1 K) (ps_if (PW.pt (pw_and (pt_cmpR op_gt (pv 3) pe_int (nomark _)) (pw_and1 (pt_cmpR op_eq (pe_c0 GDraw hr (by decide) rfl (pa_cons (pv 0) (pa_cons pe_int pa_nil))) pe_int (nomark _))))) 
        (pss_cons (ps_set (i := 5) sc_law_form.nd rfl (.inl rfl) (pe_c0 GDraw hr (by decide) rfl (pa_cons (pv 0) (pa_cons (pe_callB call_len_seq (by rfl) T.len PySem.boot_len (pa_cons (pv 2) pa_nil)) pa_nil)))) 
        (pss_cons (ps_set (i := 2) sc_law_form.nd rfl (.inl rfl) (pe_conv (t' := tOne K) (pe_op op_cat (pe_op op_cat (pe_slice sl_list (pv 2) po_none (po_some (pv 5))) (pe_lst (pa_cons (pe_tup (pa_cons (pe_ix ix_list (pv 2) (pv 5) (fun _ _ => rfl)) pa_nil)) pa_nil))) (pe_slice sl_list (pv 2) (po_some (pe_op op_add (pv 5) pe_int)) po_none)) (by
        rintro σ H Q ⟨tp, v, r, ds, d, h2, h5, hS, hv, hd, hn, k⟩
        have h1 := (List.getElem?_eq_some_iff.mp hd).1
        have pl := pl_var (K := K) h2 hv
        have n5 : PN (tVar 5) σ ((r : Nat) : Int) := pn_v h5
        have n1 : PN (tOp (rI0 fun i j => .int (i + j)) (tVar 5) (tC (.int 1))) σ ((r + 1 : Nat) : Int) := pn_add n5 pn_c
        have p := pl_cat hS (pl_cat hS (pl_take hS pl n5) (pl_lst hS (pvs_cons (pv_tup hS (pvs_cons (pv_ixL pl n5 hd) pvs_nil) (by show 1 ≤ 1000; decide)) pvs_nil) (by show 1 ≤ 1000; decide)) (by
          rw [List.length_take]
          show min r _ + 1 ≤ 10000
          omega)) (pl_drop hS pl n1) (by
          rw [List.length_append, List.length_take, List.length_drop]
          show min r _ + 1 + _ ≤ 10000
          omega)
        exact pl_use p fun v' H' s hv' => k H' v' s hv'))) 
        (pss_one (ps_aug (i := 3) sc_law_form.nd rfl (.inl rfl) pe_int ip_sub)))) pss_nil) (by
        rintro D σ H ⟨tp, ca, o1, v, s, o4, o5, o6, ds, rfl, hT, hv, hf, k⟩
        refine ⟨_, rfl, _, _, rfl, rfl, _, rfl, ?_⟩
        refine ite2 (fun c => ?_) (fun c => iteF (k H v s o5 ds (Rn.refl hT) hv hf))
        have hs : 1 ≤ s := by
          have := of_decide_eq_true c
          omega
        refine ⟨_, rfl, tp, ca, 5, rfl, hT, by decide, by decide, fun H1 r hr1 R1 => ⟨rfl, _, rfl, ?_⟩⟩
        have hv1 := hv.go (goT R1)
        refine ite2 (fun c => ?_) (fun c => k H1 v s o5 ds R1 hv1 hf)
        have hv1' := hv1
        obtain ⟨l, xs, rfl, a1, a2⟩ := hv1
        have hl := dps_len a2
        have hp := hf.pos
        have hle := hf.le
        refine ⟨_, rfl, _, rfl, l, xs, rfl, .inl (SqL.of (offS_some a1).2), tp, ca, ds.length, by rw [hl]; rfl, R1.b, by omega, by omega, fun H2 r2 hr2 R2 => ?_⟩
        have hd : ds[r2]? = some (ds[r2]'hr2) := List.getElem?_eq_getElem hr2
        refine ⟨tp, _, r2, ds, _, rfl, rfl, R2.b.inD, hv1'.go (goT R2), hd, by omega, fun H3 v3 s3 hv3 => ?_⟩
        refine ⟨_, rfl, _, _, rfl, rfl, ?_⟩
        have e : ((s : Nat) : Int) - 1 = ((s - 1 : Nat) : Int) := by omega
        have := k H3 v3 (s - 1) (some (.int (r2 : Nat))) _ (R1.trans (R2.same s3)) hv3 (fs_single hf hs hd)
        unfold stFo at this
        rw [← e] at this
        exact this)) 
      (pss_one (ps_conv (t' := tF2 K) (ps_if (pt_cmpR op_gt (pe_callB call_len_seq (by rfl) T.len PySem.boot_len (pa_cons (pv 2) pa_nil)) pe_int (nomark _)) 
        (pss_cons (ps_set (i := 6) sc_law_form.nd rfl (.inl rfl) (pe_callB (call_min2 rfl) (by rfl) T.min (by decide +kernel) (pa_cons (pe_op op_add pe_int (pe_c0 GDraw hr (by decide) rfl (pa_cons (pv 0) (pa_cons pe_int pa_nil)))) (pa_cons (pe_callB call_len_seq (by rfl) T.len PySem.boot_len (pa_cons (pv 2) pa_nil)) pa_nil)))) 
        (pss_cons (ps_conv (t' := tWd K) (ps_if (pt_cmpR op_eq (pe_c0 GDraw hr (by decide) rfl (pa_cons (pv 0) (pa_cons pe_int pa_nil))) pe_int (nomark _)) 
          (pss_one (ps_set (i := 6) sc_law_form.nd rfl (.inl rfl) (pe_callB (call_min2 rfl) (by rfl) T.min (by decide +kernel) (pa_cons pe_int (pa_cons (pe_callB call_len_seq (by rfl) T.len PySem.boot_len (pa_cons (pv 2) pa_nil)) pa_nil))))) pss_nil) (by
        rintro D σ H ⟨tp, ca, o1, v, s, o4, o5, w, ds, rfl, hT, hv, w1, w2, w3, k⟩
        refine ⟨_, rfl, tp, ca, 6, rfl, hT, by decide, by decide, fun H1 r hr1 R1 => ⟨rfl, _, rfl, ?_⟩⟩
        refine ite2 (fun c => ?_) (fun c => k H1 w R1 w1 w2 w3)
        obtain ⟨l, xs, rfl, a1, a2⟩ := hv.go (goT R1)
        have hl := dps_len a2
        refine ⟨_, rfl, l, xs, rfl, .inl (SqL.of (offS_some a1).2), _, _, rfl, ?_⟩
        have e := minI 6 xs.length
        have := k H1 (min 6 xs.length) R1 (by omega) (by omega) (by omega)
        unfold stFo at this
        rw [← e] at this
        exact this)) 
        (pss_cons (ps_set (i := 5) sc_law_form.nd rfl (.inl rfl) (pe_c0 GDraw hr (by decide) rfl (pa_cons (pv 0) (pa_cons (pe_op op_add (pe_op op_sub (pe_callB call_len_seq (by rfl) T.len PySem.boot_len (pa_cons (pv 2) pa_nil)) (pv 6)) pe_int) pa_nil)))) 
        (pss_one (ps_set (i := 2) sc_law_form.nd rfl (.inl rfl) (pe_conv (t' := tMerge K) (pe_op op_cat (pe_op op_cat (pe_slice sl_list (pv 2) po_none (po_some (pv 5))) (pe_lst (pa_cons (pe_callTy call_tuple_of (by rfl) T.tuple PyProof.Rows.boot_tuple (pa_cons (pe_slice sl_list (pv 2) (po_some (pv 5)) (po_some (pe_op op_add (pv 5) (pv 6)))) pa_nil)) pa_nil))) (pe_slice sl_list (pv 2) (po_some (pe_op op_add (pv 5) (pv 6))) po_none)) (by
        rintro σ H Q ⟨tp, v, r, w, ds, h2, h5, h6, hS, hv, hw, hn, k⟩
        have pl := pl_var (K := K) h2 hv
        have n5 : PN (tVar 5) σ ((r : Nat) : Int) := pn_v h5
        have n1 : PN (tOp (rI0 fun i j => .int (i + j)) (tVar 5) (tVar 6)) σ ((r + w : Nat) : Int) := pn_add n5 (pn_v h6)
        have pm := pl_mid hS pl n5 n1 (by omega) hw
        rw [Nat.add_sub_cancel_left] at pm
        have p := pl_cat hS (pl_cat hS (pl_take hS pl n5) (pl_lst hS (pvs_cons (pv_tupL hS pm rfl) pvs_nil) (by show 1 ≤ 1000; decide)) (by
          rw [List.length_take]
          show min r _ + 1 ≤ 10000
          omega)) (pl_drop hS pl n1) (by
          rw [List.length_append, List.length_take, List.length_drop]
          show min r _ + 1 + _ ≤ 10000
          omega)
        exact pl_use p fun v' H' s hv' => k H' v' s hv'))))))) pss_nil) (by
        rintro D σ H ⟨tp, ca, o1, v, s, o4, o5, o6, ds, rfl, hT, hv, hf, k⟩
        have hv' := hv
        obtain ⟨l, xs, rfl, a1, a2⟩ := hv
        have hl := dps_len a2
        have hle := hf.le
        refine ⟨_, rfl, l, xs, rfl, .inl (SqL.of (offS_some a1).2), _, _, rfl, rfl, _, rfl, ?_⟩
        refine ite2 (fun c => ?_) (fun c => k H _ o5 o6 ds (Rn.refl hT) hv' hf)
        have c2 := of_decide_eq_true c
        refine ⟨_, rfl, tp, ca, 3, rfl, hT, by decide, by decide, fun H1 r hr1 R1 => ?_⟩
        have hv1 := hv'.go (goT R1)
        have hs1 : SqL K H1 l xs := SqL.of (offS_some ((goT R1) _ _ a1)).2
        refine ⟨_, _, rfl, rfl, _, rfl, l, xs, rfl, .inl hs1, _, _, rfl, ?_⟩
        have e := minI (2 + r) xs.length
        refine ⟨tp, ca, o1, .ref l, s, o4, o5, min (2 + r) xs.length, ds, by rw [← e]; rfl, R1.b, hv1, by omega, by omega, by omega, fun H2 w' R2 w1 w2 w3 => ?_⟩
        have hs2 : SqL K H2 l xs := SqL.of (offS_some ((goT (R1.trans R2)) _ _ a1)).2
        have e2 : ((xs.length : Nat) : Int) - ((w' : Nat) : Int) + 1 = ((ds.length - w' + 1 : Nat) : Int) := by omega
        refine ⟨_, rfl, _, rfl, l, xs, rfl, .inl hs2, _, rfl, _, _, rfl, rfl, _, _, rfl, rfl, tp, ca, ds.length - w' + 1, congrArg (fun z => [V.ref tp, V.int z]) e2, R2.b, by omega, by omega, fun H3 r3 hr3 R3 => ?_⟩
        refine ⟨tp, _, r3, w', ds, rfl, rfl, rfl, R3.b.inD, (hv1.go (goT R2)).go (goT R3), by omega, by omega, fun H4 v4 s4 hv4 => ?_⟩
        exact k H4 v4 _ _ _ (R1.trans (R2.trans (R3.same s4))) hv4 (fs_fold hf (by omega) w2 (by omega) (by omega) (Nat.le_refl _))))))) 
    (pss_one (ps_ret (pe_ix ix_list (pv 2) pe_int (fun _ _ => rfl))))))), ?_⟩

  refine ⟨tp, ca, rfl, hT, fun H1 v n R1 n1 n2 hv => ?_⟩
  refine ⟨_, rfl, by decide, by decide, for_range (lo := 0) (n := 12) (fun i σ H' => Rn K tp ca H H' ∧ ∃ v' s' o4 o5 o6 ds, σ = stFo tp none v' s' o4 o5 o6 ∧ LVal K [tp] H' v' ds ∧ Fs s' ds) ⟨R1, v, 3, none, none, none, _, rfl, hv, fs_start n1 n2⟩ ?_ ?_⟩
  · rintro i σ H2 hi ⟨R2, v', s', o4, o5, o6, ds, rfl, hv2, hf⟩
    refine ⟨tp, ca, _, v', s', _, o5, o6, ds, rfl, R2.b, hv2, hf, fun H3 v3 s3 o53 ds3 R3 hv3 hf3 => ?_⟩
    refine ⟨tp, ca, _, v3, s3, _, o53, o6, ds3, rfl, R3.b, hv3, hf3, fun H4 v4 o54 o64 ds4 R4 hv4 hf4 => ?_⟩
    exact ⟨R2.trans (R3.trans R4), v4, s3, _, o54, o64, ds4, rfl, hv4, hf4⟩
  · rintro σ H2 ⟨R2, v', s', o4, o5, o6, ds, rfl, hv2, hf⟩
    have hp := hf.pos
    obtain ⟨l, xs, rfl, a1, a2⟩ := hv2
    have hl := dps_len a2
    have hx : xs[0]? = some (xs[0]'(by omega)) := List.getElem?_eq_getElem (by omega)
    obtain ⟨d, hd, hdv⟩ := dps_at a2 hx
    exact ⟨_, rfl, l, xs, 0, _, rfl, rfl, SqL.of (offS_some a1).2, atI_nat hx, q H2 _ d R2 (fs_form hf (List.mem_of_getElem? hd)) hdv⟩
end
end K23
set_option Elab.async false
set_option linter.all false
set_option maxRecDepth 100000
set_option maxHeartbeats 8000000
namespace K23
open PySem PySem.Spec PyProof.Rows L2 Dt K23S
/-! ### how far down the queues lie -/
def lens (d : PyData) : List Nat := (lv (dtOf d)).map List.length
theorem rowsN_lens (u : Dt) : ∀ n : Nat, (rowsN lv u n).map List.length = (u.kids.take n).flatMap fun k => ((lv k).map List.length).map (· + 1)
  | 0 => by
    rw [List.take_zero]
    rfl
  | n + 1 => by
    show (rowsN lv u n ++ match u.kids[n]? with | some k => (lv k).map (List.cons n) | none => []).map List.length = _
    rw [List.map_append, rowsN_lens u n, List.take_add_one, List.flatMap_append]
    congr 1
    cases u.kids[n]? with
    | none => rfl
    | some k =>
      show ((lv k).map (List.cons n)).map List.length = [k].flatMap _
      rw [List.flatMap_singleton, List.map_map, List.map_map]
      rfl
theorem lens_leaf : lens (.tuple []) = [0] := by
  unfold lens
  rw [dt_tup, (lv_leaf (dtRow_len [])).1]
  rfl
theorem lens_tup {ds : List PyData} (h : ds ≠ []) : lens (.tuple ds) = ds.flatMap fun d => (lens d).map (· + 1) := by
  unfold lens
  have hl : (dtRow ds).len ≠ 0 := by
    rw [dtRow_len]
    intro z
    exact h (List.length_eq_zero_iff.mp z)
  rw [dt_tup, lv_rows _ hl, rowsN_lens, ← kids_len, List.take_length, dtRow_kids, List.flatMap_map]
theorem good_inv {d : PyData} (h : (dtOf d).good 1 = true) : ∃ ds, d = .tuple ds ∧ ds.length ≤ 6 ∧ ∀ e ∈ ds, (dtOf e).good 1 = true := by
  cases d with
  | tuple ds =>
    rw [dt_tup] at h
    unfold Dt.good Dt.here at h
    rw [dtRow_len, kids_good, dtRow_kids] at h
    simp only [Bool.and_eq_true, decide_eq_true_eq] at h
    refine ⟨ds, rfl, h.1.1.2, fun e he => ?_⟩
    exact List.all_eq_true.mp h.2 _ (List.mem_map_of_mem he)
  | _ => exact absurd h (by unfold dtOf; decide)
theorem shps_inv {n : Nat} : ∀ {ds : List PyData}, PyData.canLayAll0 ds = true → PyData.depthAll ds ≤ n → ∀ e ∈ ds, Shp n e
  | [], _, _, e, he => nomatch he
  | d :: ds, h1, h2, e, he => by
    rw [PyData.canLayAll0, Bool.and_eq_true] at h1
    rw [PyData.depthAll] at h2
    rcases List.mem_cons.mp he with rfl | he
    · exact ⟨h1.1, by omega⟩
    · exact shps_inv h1.2 (by omega) e he
theorem shp_kid {n : Nat} {ds : List PyData} (h : Shp n (.tuple ds)) : ∀ e ∈ ds, Shp n e := by
  obtain ⟨h1, h2⟩ := h
  rw [PyData.canLay0] at h1
  rw [PyData.depth] at h2
  exact shps_inv h1 (by omega)
/-! ### _law_deeps -/
/-- what stands to be walked: the value, its data, how deep -/
def Ent (K : PySem.W.Frag) (H0 H : Hp) (p : V) (e : PyData × Nat) : Prop := ∃ a v, p = .ref a ∧ H a = some (.tup [v, .int (e.2 : Nat)]) ∧ Dp K H0 v e.1 ∧ (dtOf e.1).good 1 = true ∧ Shp 13 e.1
inductive Ents (K : PySem.W.Frag) (H0 H : Hp) : List V → List (PyData × Nat) → Prop
  | nil : Ents K H0 H [] []
  | cons {p : V} {e : PyData × Nat} {R : List V} {st : List (PyData × Nat)} (h : Ent K H0 H p e) (t : Ents K H0 H R st) : Ents K H0 H (p :: R) (e :: st)
theorem Ents.app {K : PySem.W.Frag} {H0 H : Hp} : ∀ {R R' : List V} {st st' : List (PyData × Nat)}, Ents K H0 H R st → Ents K H0 H R' st' → Ents K H0 H (R ++ R') (st ++ st')
  | _, _, _, _, .nil, h => h
  | _, _, _, _, .cons e t, h => .cons e (t.app h)
theorem Ents.len {K : PySem.W.Frag} {H0 H : Hp} : ∀ {R : List V} {st : List (PyData × Nat)}, Ents K H0 H R st → R.length = st.length
  | _, _, .nil => rfl
  | _, _, .cons _ t => congrArg (· + 1) t.len
def flat (st : List (PyData × Nat)) : List Nat := st.flatMap fun e => (lens e.1).map (· + e.2)
def nst (st : List (PyData × Nat)) : Nat := nds (st.map (·.1))
structure InvD (K : PySem.W.Frag) (H0 : Hp) (d0 : PyData) (F L : Addr) (i : Nat) (H : Hp) : Prop where
  s : Same H0 H
  f0 : H0 F = none
  l0 : H0 L = none
  ne : F ≠ L
  ex : ∃ R st done, H F = some (.lst (done.map fun n => V.int (n : Nat))) ∧ H L = some (.lst (List.reverse R)) ∧ Ents K H0 H R st ∧ done ++ flat st = (lens d0).map (· + 1) ∧ nst st + done.length ≤ 20 ∧ (st = [] ∨ nst st + i ≤ 20)
def spDeeps (K : PySem.W.Frag) : Sp := fun vs H Q _ => ∃ (v : V) (d : PyData), vs = [v] ∧ Dp K H v d ∧ FormOK d ∧ ∀ H' L, Same H H' → H L = none → H' L = some (.lst ((lens d).map fun n => V.int ((n + 1 : Nat) : Int))) → Q (.ref L) H'
def tStep (K : PySem.W.Frag) : TS := fun D σ H => ∃ (H0 : Hp) (d0 : PyData) (o0 : Option V) (F L : Addr) (o3 o4 o5 o6 : Option V) (i : Nat), σ = [o0, some (.ref F), some (.ref L), o3, o4, o5, o6] ∧ InvD K H0 d0 F L i H ∧
  ∀ H' o4' o5' o6', InvD K H0 d0 F L (i + 1) H' → D.nx [o0, some (.ref F), some (.ref L), o3, o4', o5', o6'] H'
theorem ent_same {K : PySem.W.Frag} {H0 H H' : Hp} (s : ∀ a xs, H a = some (.tup xs) → H' a = some (.tup xs)) : ∀ {R : List V} {st : List (PyData × Nat)}, Ents K H0 H R st → Ents K H0 H' R st
  | _, _, .nil => .nil
  | _, _, .cons ⟨a, v, h1, h2, h3⟩ t => .cons ⟨a, v, h1, s _ _ h2, h3⟩ (ent_same s t)
theorem tup_upd {H : Hp} {D : Addr} {xs ys : List V} (h : H D = some (.lst xs)) : ∀ a zs, H a = some (.tup zs) → (upd H D (.lst ys)) a = some (.tup zs) := fun a zs ha => by
  rw [upd_ne]
  · exact ha
  · intro e
    rw [e, h] at ha
    exact HO.noConfusion (Option.some.inj ha)
theorem tup_same {H H' : Hp} (s : Same H H') : ∀ a zs, H a = some (.tup zs) → H' a = some (.tup zs) := fun _ _ h => s _ _ h
theorem flat_cons (e : PyData × Nat) (st : List (PyData × Nat)) : flat (e :: st) = (lens e.1).map (· + e.2) ++ flat st := rfl
theorem flat_app (a b : List (PyData × Nat)) : flat (a ++ b) = flat a ++ flat b := List.flatMap_append
theorem nst_cons (e : PyData × Nat) (st : List (PyData × Nat)) : nst (e :: st) = nd e.1 + nst st := rfl
theorem nst_app (a b : List (PyData × Nat)) : nst (a ++ b) = nst a + nst b := by
  unfold nst
  rw [List.map_append, nds_app]
theorem flat_kids (ds : List PyData) (k : Nat) : flat (ds.map fun d => (d, k + 1)) = (ds.flatMap fun d => (lens d).map (· + 1)).map (· + k) := by
  unfold flat
  rw [List.flatMap_map, List.map_flatMap]
  congr 1
  funext d
  rw [List.map_map]
  congr 1
  funext n
  show n + (k + 1) = n + 1 + k
  omega
theorem nst_kids (ds : List PyData) (k : Nat) : nst (ds.map fun d => (d, k)) = nds ds := by
  unfold nst
  rw [List.map_map]
  congr 1
  exact List.map_id' ds
theorem eqv_nil (ds : List PyData) : PyData.eqv (.tuple ds) (.tuple []) = decide (ds = []) := by
  rw [PyData.eqv]
  cases ds with
  | nil => rw [PyData.eqvAll]; rfl
  | cons _ _ => rw [PyData.eqvAll]; rfl
theorem st_len : ∀ st : List (PyData × Nat), st.length ≤ nst st
  | [] => Nat.le_refl 0
  | e :: st => by
    rw [nst_cons, List.length_cons]
    have := st_len st
    have := nodes_pos (dtOf e.1)
    unfold nd
    omega
theorem call_len_seqK {X : Cx} {K : PySem.W.Frag} (hK : X.K = K) : CallR X (.builtin "len") (rLenQ K) := by
  subst hK
  exact call_len_seq
def tApp (K : PySem.W.Frag) : TS := fun D σ H => ∃ (v : V) (F : Addr) (k : Nat) (done : List Nat) (ds : List PyData), σ[1]? = some (some (.ref F)) ∧ σ[4]? = some (some v) ∧ σ[5]? = some (some (.int (k : Nat))) ∧ Dp K H v (.tuple ds) ∧ Shp 13 (.tuple ds) ∧ H F = some (.lst (done.map fun n => V.int (n : Nat))) ∧ done.length ≤ 100 ∧
  ∀ H2 H3 done', Same H H2 → (ds = [] → H3 = upd H2 F (.lst (done'.map fun n => V.int (n : Nat))) ∧ done' = done ++ [k]) → (ds ≠ [] → H3 = H2 ∧ done' = done) → D.nx σ H3
section
variable {P : Program} {w : World} {K : PySem.W.Frag} {mg : Str → Option Value} {base : Heap} {C U fI fG B S PA : Addr}
theorem ok_deeps (D : DefAt K mg "_law_deeps" s_law_deeps ["form"]) (T : Txt K mg) : CalX P w K mg base CX0 1 "_law_deeps" ["form"] (spDeeps K) := by
  refine D.ok sc_law_deeps (fun vs H Q E h => ?_) (fun f cdv A outer s H vs Q E hr h => ?_)
  · obtain ⟨v, d, rfl, _⟩ := h
    rfl
  obtain ⟨v, d, rfl, hd, hf, q⟩ := h
  refine ⟨_, (pss_cons (ps_set (i := 1) sc_law_deeps.nd rfl (.inl rfl) (pe_lst pa_nil)) 
    (pss_cons (ps_set (i := 2) sc_law_deeps.nd rfl (.inl rfl) (pe_lst (pa_cons (pe_tup (pa_cons (pv 0) (pa_cons pe_int pa_nil))) pa_nil))) 
    (pss_cons (ps_for PassesOwn.never rfl (pi_range1 (by rfl) T.range (pa_cons pe_int pa_nil)) (pg_name (i := 3) sc_law_deeps.nd rfl (Or.inl rfl)) 
      (pss_one (ps_conv (t' := tStep K) (ps_if (pt_cmpR op_gt (pe_callB call_len_seq (by rfl) T.len PySem.boot_len (pa_cons (pv 2) pa_nil)) pe_int (nomark _)) 
        (pss_cons (ps_asg (pe_bm0 PySem.F.plainAttrs_list PySem.F.slot_list_pop PySem.F.type_list_pop mt_pop (pv 2)) (pg_tup (by rfl) (pgs_cons (pg_name (i := 4) sc_law_deeps.nd rfl (Or.inr rfl)) (pgs_cons (pg_name (i := 5) sc_law_deeps.nd rfl (Or.inr rfl)) pgs_nil)))) 
        (pss_cons (ps_conv (t' := tApp K) (ps_if (pt_cmpR (op_eqD hr.units) (pv 4) (pe_tup pa_nil) (nomark _)) 
          (pss_one (ps_expr (pe_bm PySem.F.plainAttrs_list PySem.F.slot_list_append PySem.F.type_list_append mt_append (pv 1) (pa_cons (pv 5) pa_nil)))) pss_nil) (by
        rintro D σ H ⟨v, F, kk, done, ds, h1, h4, h5, hv, hsh, hF, hn, k⟩
        refine ⟨_, h4, (by show 0 ≤ sizeLine; decide), fun pe hpe => ⟨_, _, dp_same (same_new hpe) hv, .tup (SqT.of upd_same) .nil, hsh.ok (by decide), (shp_tup (n := 0) (ds := []) fun e he => nomatch he).ok (by decide), _, rfl, ?_⟩⟩
        rw [eqv_nil]
        refine ite2 (fun c => ?_) (fun c => ?_)
        · have e := of_decide_eq_true c
          refine ⟨_, h1, .inl ⟨rfl, _, SqL.of ((same_new hpe) _ _ hF)⟩, _, h5, F, _, _, rfl, rfl, (same_new hpe) _ _ hF, small1000 (by rw [List.length_map]; omega), ?_⟩
          refine k _ _ (done ++ [kk]) (same_new (o := .tup []) hpe) (fun _ => ⟨?_, rfl⟩) (fun n => absurd e n)
          rw [List.map_append]
          rfl
        · have e : ds ≠ [] := fun z => c (decide_eq_true z)
          exact k _ _ done (same_new hpe) (fun z => absurd z e) (fun _ => ⟨rfl, rfl⟩))) 
        (pss_one (ps_expr (pe_bm PySem.F.plainAttrs_list PySem.F.slot_list_extend PySem.F.type_list_extend mt_extend (pv 2) (pa_cons (pe_lc (own := [("k", 6)]) (g := gName 6) (tt := tYes) (by rfl) sc_law_deeps.nd (pi_range1 (by rfl) T.range (pa_cons (pe_callB call_len_seq (by rfl) T.len PySem.boot_len (pa_cons (pv 4) pa_nil)) pa_nil)) (blkOk_by (own := [("k", 6)]) (N := N_law_deeps) (sc := defScope s_law_deeps) (by decide +kernel)) (fun _ _ _ _ _ => pg_name (i := 6) sc_law_deeps.nd rfl (Or.inl rfl)) (fun _ _ _ _ _ => pts_nil) (fun _ _ _ _ _ => by exact (pe_tup (pa_cons (pe_ix (show IxR _ (rIxT K) from ix_tup) (pv 4) (pe_op op_sub (pe_op op_sub (pe_callB (call_len_seqK (K := K) (by exact rfl)) (by rfl) T.len PySem.boot_len (pa_cons (pv 4) pa_nil)) pe_int) (pv 6)) (fun _ _ => rfl)) (pa_cons (pe_op op_add (pv 5) pe_int) pa_nil))))) pa_nil)))))) pss_nil) (by
        rintro D σ H ⟨H0, d0, o0, F, L, o3, o4, o5, o6, i, rfl, I, k⟩
        have I' := I
        obtain ⟨s0, f0, l0, ne, R, st, done, h1, h2, h3, h4, h6, h5⟩ := I
        refine ⟨_, rfl, L, _, rfl, .inl (SqL.of h2), _, _, rfl, rfl, _, rfl, ?_⟩
        cases h3 with
        | nil =>
          refine iteF (k H _ _ _ ⟨s0, f0, l0, ne, [], [], done, h1, h2, .nil, h4, h6, .inl rfl⟩)
        | @cons p e R st he ht =>
        obtain ⟨a, v, rfl, ha, hv, hg, hsh⟩ := he
        have hc : (decide (((List.reverse (V.ref a :: R)).length : Int) > 0)) = true := decide_eq_true (by rw [List.length_reverse]; show ((R.length + 1 : Nat) : Int) > 0; omega)
        refine ite2 (fun _ => ?_) (fun c => absurd hc c)
        have hrev : List.reverse (V.ref a :: R) = R.reverse ++ [V.ref a] := List.reverse_cons
        have hy : (R.reverse ++ [V.ref a])[(R.reverse ++ [V.ref a]).length - 1]? = some (V.ref a) := by
          rw [List.length_append, List.length_singleton, Nat.add_sub_cancel, List.getElem?_append_right (Nat.le_refl _), Nat.sub_self]
          rfl
        rw [hrev] at h2
        have hdl : (R.reverse ++ [V.ref a]).dropLast = R.reverse := List.dropLast_concat
        refine ⟨_, rfl, .inl ⟨rfl, _, SqL.of h2⟩, L, _, _, rfl, rfl, h2, hy, ?_⟩
        rw [hdl]
        obtain ⟨ds, hds, hl6, hgk⟩ := good_inv hg
        obtain ⟨d, kk⟩ := e
        obtain rfl : d = .tuple ds := hds
        have hm1 : ∀ b zs, H b = some (.tup zs) → (upd H L (.lst R.reverse)) b = some (.tup zs) := tup_upd h2
        have s1 : Same H0 (upd H L (.lst R.reverse)) := same_mut s0 l0
        have ha1 := hm1 a _ ha
        have ht1 := ent_same hm1 ht
        have hF1 : (upd H L (.lst R.reverse)) F = some (.lst (done.map fun n => V.int (n : Nat))) := by
          rw [upd_ne ne]
          exact h1
        have hL1 : (upd H L (.lst R.reverse)) L = some (.lst R.reverse) := upd_same
        revert s1 ha1 ht1 hF1 hL1
        generalize upd H L (.lst R.reverse) = H1
        intro s1 ha1 ht1 hF1 hL1
        refine ⟨a, _, rfl, SqT.of ha1, rfl, ?_⟩
        have hn := st_len st
        have hn2 := nst_cons (.tuple ds, kk) st
        have hn3 : nd ((PyData.tuple ds, kk) : PyData × Nat).1 = nds ds + 1 := nd_tup ds
        rw [hn2, hn3] at h6 h5
        refine ⟨_, _, rfl, _, _, rfl, rfl, v, F, kk, done, ds, rfl, rfl, rfl, dp_same s1 hv, hsh, hF1, by omega, fun H2 H3 done' s2 g1 g2 => ?_⟩
        have s03 : Same H0 H3 := by
          by_cases e : ds = []
          · rw [(g1 e).1]
            exact same_mut (s1.trans s2) f0
          · rw [(g2 e).1]
            exact s1.trans s2
        have hF3 : H3 F = some (.lst (done'.map fun n => V.int (n : Nat))) := by
          by_cases e : ds = []
          · rw [(g1 e).1]
            exact upd_same
          · rw [(g2 e).1, (g2 e).2]
            exact s2 _ _ hF1
        have hL3 : H3 L = some (.lst R.reverse) := by
          by_cases e : ds = []
          · rw [(g1 e).1, upd_ne ne.symm]
            exact s2 _ _ hL1
          · rw [(g2 e).1]
            exact s2 _ _ hL1
        have ht3 : Ents K H0 H3 R st := by
          by_cases e : ds = []
          · rw [(g1 e).1]
            exact ent_same (tup_upd (s2 _ _ hF1)) (ent_same (tup_same s2) ht1)
          · rw [(g2 e).1]
            exact ent_same (tup_same s2) ht1
        have hdl : done'.length ≤ done.length + 1 := by
          by_cases e : ds = []
          · rw [(g1 e).2, List.length_append]
            exact Nat.le_refl _
          · rw [(g2 e).2]
            exact Nat.le_add_right _ _
        have hcat : done' ++ flat (ds.map (fun d => (d, kk + 1)) ++ st) = (lens d0).map (· + 1) := by
          rw [← h4, flat_cons, flat_app, flat_kids]
          by_cases e : ds = []
          · rw [(g1 e).2, e]
            show (done ++ [kk]) ++ ([] ++ flat st) = done ++ ((lens (.tuple [])).map (· + kk) ++ flat st)
            rw [lens_leaf]
            show (done ++ [kk]) ++ ([] ++ flat st) = done ++ ([0 + kk] ++ flat st)
            rw [Nat.zero_add, List.nil_append, List.append_assoc]
          · rw [(g2 e).2]
            show _ = done ++ ((lens (.tuple ds)).map (· + kk) ++ flat st)
            rw [lens_tup e]
        clear g1 g2
        obtain ⟨b, xs, rfl, hsq, hxs, hxl⟩ := dp_tup hv
        refine ⟨_, rfl, .inl ⟨rfl, _, SqL.of hL3⟩, _, rfl, b, xs, rfl, .inr (same_sqt s03 hsq), _, rfl, by omega, by omega, fun Dl hDl => ?_⟩
        refine lc_range (lo := 0) (n := xs.length) (fun j H' => Same H3 H' ∧ ∃ acc, H' Dl = some (.lst acc) ∧ acc.length = j ∧ Ents K H0 H' acc.reverse ((ds.drop (xs.length - j)).map fun d => (d, kk + 1))) ⟨same_new hDl, [], upd_same, rfl, by rw [Nat.sub_zero, hxl, List.drop_length]; exact .nil⟩ ?_ ?_
        · rintro j H' hj ⟨sm, acc, hD, hal, hE⟩
          have hx : xs[xs.length - 1 - j]? = some (xs[xs.length - 1 - j]'(by omega)) := List.getElem?_eq_getElem (by omega)
          obtain ⟨dj, hdj, hdv⟩ := dps_at hxs hx
          have e1 : ((xs.length : Nat) : Int) - 1 - (0 + ((j : Nat) : Int)) = ((xs.length - 1 - j : Nat) : Int) := by omega
          have sq' := same_sqt sm (same_sqt s03 hsq)
          refine ⟨rfl, _, rfl, _, rfl, b, xs, rfl, .inr sq', _, _, rfl, rfl, _, rfl, _, _, rfl, rfl, b, xs, _, _, rfl, rfl, sq', (by rw [e1]; exact atI_nat hx), _, rfl, _, _, rfl, rfl, (by show 2 ≤ sizeLine; decide), fun p hp => ?_⟩
          refine ⟨acc, (same_new hp) _ _ hD, small1000 (by omega), same_mut (sm.trans (same_new hp)) hDl, acc ++ [.ref p], upd_same, by rw [List.length_append]; show acc.length + 1 = j + 1; omega, ?_⟩
          rw [List.reverse_append]
          have e2 : ds.drop (xs.length - (j + 1)) = dj :: ds.drop (xs.length - j) := by
            have h1 := (List.getElem?_eq_some_iff.mp hdj)
            have e3 : xs.length - (j + 1) = xs.length - 1 - j := by omega
            have e4 : xs.length - j = xs.length - 1 - j + 1 := by omega
            rw [e3, e4, List.drop_eq_getElem_cons h1.1, h1.2]
          rw [e2]
          have hmem := List.mem_of_getElem? hdj
          have hD' : (upd H' p (.tup [xs[xs.length - 1 - j]'(by omega), .int ((kk : Nat) + 1)])) Dl = some (.lst acc) := (same_new hp) _ _ hD
          refine .cons ⟨p, _, rfl, tup_upd hD' _ _ upd_same, hdv, hgk dj hmem, shp_kid hsh dj hmem⟩ (ent_same (tup_upd hD') (ent_same (tup_same (same_new hp)) hE))
        · rintro H4 ⟨sm, zs, hD, hal, hE⟩
          rw [Nat.sub_self, List.drop_zero] at hE
          refine ⟨L, Dl, _, _, rfl, rfl, sm _ _ hL3, hD, ?_, k _ _ _ _ ⟨same_mut (s03.trans sm) l0, f0, l0, ne, zs.reverse ++ R, ds.map (fun d => (d, kk + 1)) ++ st, done', ?_, ?_, ?_, hcat, ?_, .inr ?_⟩⟩
          · have := ht.len
            have hsl := sizeLine_eq
            rw [List.length_reverse]
            omega
          · rw [upd_ne ne]
            exact sm _ _ hF3
          · rw [List.reverse_append, List.reverse_reverse]
            exact upd_same
          · exact ent_same (tup_upd (sm _ _ hL3)) (hE.app (ent_same (tup_same sm) ht3))
          · rw [nst_app, nst_kids]
            omega
          · rw [nst_app, nst_kids]
            rcases h5 with h5 | h5
            · exact nomatch h5
            · omega)))) 
    (pss_one (ps_ret (pv 1)))))), ?_⟩

  refine ⟨(by show 0 ≤ sizeLine; decide), fun F hF => ?_⟩
  refine ⟨_, rfl, (by show 2 ≤ sizeLine; decide), fun p hp => ⟨(by show 1 ≤ sizeLine; decide), fun L hL => ?_⟩⟩
  have s1 : Same H (upd H F (.lst [])) := same_new hF
  have s2 := s1.trans (same_new (o := .tup [v, .int 1]) hp)
  have s3 := s2.trans (same_new (o := .lst [.ref p]) hL)
  have pF : p ≠ F := fun e => by
    rw [e, upd_same] at hp
    exact nomatch hp
  have lF : L ≠ F := fun e => by
    rw [e, upd_ne pF.symm, upd_same] at hL
    exact nomatch hL
  have lp : L ≠ p := fun e => by
    rw [e, upd_same] at hL
    exact nomatch hL
  have I0 : InvD K H d F L 0 (upd (upd (upd H F (.lst [])) p (.tup [v, .int 1])) L (.lst [.ref p])) := by
    refine ⟨s3, hF, s2.free hL, lF.symm, [.ref p], [(d, 1)], [], ?_, upd_same, .cons ⟨p, v, rfl, ?_, hd, hf.good, hf.sh⟩ .nil, ?_, ?_, .inr ?_⟩
    · rw [upd_ne lF.symm, upd_ne pF.symm]
      exact upd_same
    · rw [upd_ne lp.symm]
      exact upd_same
    · rw [flat_cons]
      show [] ++ (_ ++ []) = _
      rw [List.append_nil, List.nil_append]
    · have := hf.nd
      show nd d + 0 + 0 ≤ 20
      omega
    · have := hf.nd
      show nd d + 0 + 0 ≤ 20
      omega
  refine ⟨_, rfl, by decide, by decide, for_range (lo := 0) (n := 200) (fun i σ H' => InvD K H d F L i H' ∧ ∃ o3 o4 o5 o6, σ = [some v, some (.ref F), some (.ref L), o3, o4, o5, o6]) ⟨I0, _, _, _, _, rfl⟩ ?_ ?_⟩
  · rintro i σ H' hi ⟨I, o3, o4, o5, o6, rfl⟩
    exact ⟨H, d, _, F, L, _, o4, o5, o6, i, rfl, I, fun H2 o4' o5' o6' I2 => ⟨I2, _, _, _, _, rfl⟩⟩
  · rintro σ H' ⟨I, o3, o4, o5, o6, rfl⟩
    obtain ⟨s', _, _, _, R, st, done, h1, h2, h3, h4, _, h5⟩ := I
    have hst : st = [] := by
      rcases h5 with h5 | h5
      · exact h5
      · omega
    subst hst
    rw [show flat [] = ([] : List Nat) from rfl, List.append_nil] at h4
    refine ⟨_, rfl, q H' F s' hF ?_⟩
    rw [h1, h4, List.map_map]
    rfl
end
end K23
set_option Elab.async false
set_option linter.all false
set_option maxRecDepth 100000
set_option maxHeartbeats 4000000
namespace K23
open PySem PySem.Spec PyProof.Rows L2 Dt K23S
/-! ### a row of ranks that is drawn -/
def RanksI (rs : List (List Int)) : Prop := ∀ r ∈ rs, RankI r
def ranksD (rs : List (List Int)) : PyData := .tuple (rs.map intsD)
theorem offS_sub {S S' : List Addr} {H : Hp} (h : ∀ a ∈ S', a ∈ S) : Same (offS S H) (offS S' H) := fun b o e => by
  obtain ⟨h1, h2⟩ := offS_some e
  rw [offS_ne fun z => h1 (h b z)]
  exact h2
theorem Dp_snoc {K : PySem.W.Frag} {H : Hp} {xs : List V} {ds : List PyData} {x : V} {d : PyData} (h : DpAll K H xs ds) (g : Dp K H x d) : DpAll K H (xs ++ [x]) (ds ++ [d]) := dps_app h (.cons g .nil)
theorem ranks_read {K : PySem.W.Frag} {σ : L2.St} {H : Hp} {tp ca L : Addr} {i0 id iq ik im : Nat} {q n m : Nat} {xs : List V} {Q : VK} {r : List V → Hp → VK → Prop} (hr : r = rTupQ K) (hT : Tape K H tp ca) (h0 : ∀ y, ((wipe σ [ik]).set ik (some y))[i0]? = some (some (.ref tp))) (hd : σ[id]? = some (some (.ref L))) (hq : σ[iq]? = some (some (.int (q : Nat)))) (hm : ∀ y, ((wipe σ [ik]).set ik (some y))[im]? = some (some (.int (m : Nat))))
    (hL : H L = some (.lst xs)) (hx : xs[q]? = some (.int (n : Nat))) (hn : n ≤ 100) (hw : ∀ y, wipe ((wipe σ [ik]).set ik (some y)) [ik] = wipe σ [ik])
    (k : ∀ H' v rs, Rn K tp ca H H' → rs.length = n → RanksI rs → Dp K (offS [tp] H') v (ranksD rs) → Q v H') :
    tCB r (tCons (tLc (iRng1 (tCons (tOp (rIxL K) (tVar id) (tVar iq)) tNil)) (gName ik) tYes (tCall (spMkRank K) [] E0 (tCons (tVar i0) (tCons (tVar im) tNil))) [ik]) tNil) σ H Q := by
  subst hr
  refine ⟨_, hd, _, hq, L, xs, q, _, rfl, rfl, SqL.of hL, atI_nat hx, _, rfl, by omega, by omega, fun Dl hDl => ?_⟩
  refine lc_range (lo := 0) (n := n) (fun i H' => Rn K tp ca H H' ∧ ∃ acc rs, H' Dl = some (.lst acc) ∧ acc.length = i ∧ rs.length = i ∧ RanksI rs ∧ DpAll K (offS [tp, Dl] H') acc (rs.map intsD)) ⟨Rn.of hT (same_new hDl), [], [], upd_same, rfl, rfl, (fun _ z => nomatch z), .nil⟩ ?_ ?_
  · rintro i H' hi ⟨R1, acc, rs, hD, hal, hrl, hrs, hdp⟩
    refine ⟨hw _, _, h0 _, _, hm _, tp, ca, m, rfl, R1.b, fun H2 a ns R2 hns ha0 ha => ?_⟩
    have nD : Dl ≠ tp := hT.new hDl
    have hD2 := R2.at hD nD
    have na : a ∉ [tp, Dl] := fun z => by
      rcases List.mem_cons.mp z with z | z
      · exact R1.b.new ha0 z
      · rw [List.mem_singleton.mp z, hD] at ha0
        exact nomatch ha0
    refine ⟨acc, hD2, small1000 (by omega), (R1.trans R2).mut hDl, acc ++ [.ref a], rs ++ [ns], upd_same, by rw [List.length_append]; show acc.length + 1 = i + 1; omega, by rw [List.length_append]; show rs.length + 1 = i + 1; omega, fun r2 hr2 => ?_, ?_⟩
    · rcases List.mem_append.mp hr2 with hr2 | hr2
      · exact hrs r2 hr2
      · obtain rfl := List.mem_singleton.mp hr2
        exact hns
    · rw [List.map_append]
      have g : GoS [tp, Dl] H' (upd H2 Dl (.lst (acc ++ [.ref a]))) := GoS.upd (GoS.rn R2 (by simp)) (by simp)
      refine Dp_snoc (dps_same g hdp) ?_
      refine rkv_dp (SqT.of ?_)
      rw [offS_ne na, upd_ne]
      · exact ha
      · exact fun z => na (by rw [z]; simp)
  · rintro H1 ⟨R1, acc, rs, hD, hal, hrl, hrs, hdp⟩
    refine ⟨Dl, acc, rfl, .inl ⟨SqL.of hD, fun t ht => ?_⟩⟩
    refine k _ _ rs (R1.same (same_new ht)) hrl hrs (.tup (sqt_offS upd_same (R1.b.inD.new ht)) ?_)
    exact dps_same (GoS.of (same_new ht)) (dps_same (offS_sub (by simp)) hdp)
/-! ### what fits a way, and what does not -/
theorem fit_good {rs : List (List Int)} (h : RanksI rs) (n : Nat) : fitOf n (ranksD rs) = decide (rs.length = n) := by
  show (decide ((rs.map intsD).length = n) && (rs.map intsD).all rankOf) = _
  rw [List.length_map]
  have e : (rs.map intsD).all rankOf = true := List.all_eq_true.mpr fun d hd => by
    obtain ⟨r, hr, rfl⟩ := List.mem_map.mp hd
    exact rank_intsD (h r hr)
  rw [e, Bool.and_true]
theorem fit_len {ds : List PyData} {n : Nat} (h : ds.length ≠ n) : fitOf n (.tuple ds) = false := by
  show (decide (ds.length = n) && ds.all rankOf) = false
  rw [decide_eq_false h]
  rfl
theorem fit_bad {ds : List PyData} {d : PyData} {n : Nat} (h : d ∈ ds) (hb : rankOf d = false) : fitOf n (.tuple ds) = false := by
  show (decide (ds.length = n) && ds.all rankOf) = false
  cases e : ds.all rankOf with
  | false => rw [Bool.and_false]
  | true =>
    have := List.all_eq_true.mp e d h
    rw [hb] at this
    exact nomatch this
theorem rank_ranks {rs : List (List Int)} (h : rs ≠ []) : rankOf (ranksD rs) = false := by
  cases rs with
  | nil => exact absurd rfl h
  | cons r rs =>
    show (decide (((r :: rs).map intsD).length ≤ 8) && ((intsD r :: rs.map intsD)).all partB) = false
    rw [List.all_cons, show partB (intsD r) = false from rfl, Bool.false_and, Bool.and_false]
/-! ### asks about a form -/
theorem lf_lens (d : PyData) : (dtOf d).lf = (lens d).length := by
  unfold Dt.lf lens
  rw [List.length_map]
theorem lens_lv {d : PyData} {i : Nat} {p : Ad} (h : (lv (dtOf d))[i]? = some p) : (lens d)[i]? = some p.length := by
  unfold lens
  rw [List.getElem?_map, h]
  rfl
theorem ask_ranks {K : PySem.W.Frag} {H : Hp} {Q : VK} {E : XK} {w : Str} {x qv y : V} {fd qd d : PyData} (hw : w = "ranks" ∨ w = "named ranks") (hx : Dp K H x fd) (hf : FormOK fd) (hq : Dp K H qv qd) (hy : Dp K H y d) (hl : ∀ ds, d = .tuple ds → ds.length ≤ 1000000)
    (h : (belowB (lens fd).length (numOf qd) = false ∧ Refd K H Q "queue") ∨ (∃ (i n : Nat), qd = .int (i : Nat) ∧ (lens fd)[i]? = some n ∧ ∀ H', Same H H' → Q (.bl (fitOf (n + 1) d)) H')) : spAsk K 6 [.str w, x, qv, y] H Q E := by
  refine ⟨w, x, qv, y, rfl, .inr (.inr (.inl ⟨hw, dtOf fd, numOf qd, d, dtv_of hx, hf.size, fun _ => ⟨by have := hf.ht; omega, by have := hf.nd; unfold nd at this; omega⟩, num_dp hq, hy, hl, fun e => ?_, fun _ e => ?_, fun _ i p H' e1 e2 s => ?_⟩))⟩
  · rw [hf.good] at e
    exact nomatch e
  · rcases h with ⟨_, h⟩ | ⟨i, n, rfl, h1, _⟩
    · exact h
    · rw [lf_lens] at e
      have hi := (List.getElem?_eq_some_iff.mp h1).1
      have e' : (decide (0 ≤ ((i : Nat) : Int)) && decide (((i : Nat) : Int) < ((lens fd).length : Nat))) = false := e
      rw [decide_eq_true (by omega), decide_eq_true (by omega)] at e'
      exact nomatch e'
  · have e3 := lens_lv e2
    rcases h with ⟨h, _⟩ | ⟨j, n, rfl, h1, h2⟩
    · have hi := (List.getElem?_eq_some_iff.mp e3).1
      rw [e1] at h
      have h' : (decide (0 ≤ ((i : Nat) : Int)) && decide (((i : Nat) : Int) < ((lens fd).length : Nat))) = false := h
      rw [decide_eq_true (by omega), decide_eq_true (by omega)] at h'
      exact nomatch h'
    · have : ((j : Nat) : Int) = (i : Nat) := Option.some.inj e1
      obtain rfl : j = i := by omega
      rw [h1] at e3
      rw [← Option.some.inj e3]
      exact h2 H' s
theorem ask_badf {K : PySem.W.Frag} {H : Hp} {Q : VK} {E : XK} {w : Str} {x qv y : V} {fd qd d : PyData} (hw : w = "ranks" ∨ w = "named ranks") (hx : Dp K H x fd) (hf : BadF fd) (hq : Dp K H qv qd) (hy : Dp K H y d) (hl : ∀ ds, d = .tuple ds → ds.length ≤ 1000000)
    (q : Refd K H Q "form") : spAsk K 6 [.str w, x, qv, y] H Q E :=
  ⟨w, x, qv, y, rfl, .inr (.inr (.inl ⟨hw, dtOf fd, numOf qd, d, dtv_of hx, hf.2, fun e => (by rw [hf.1] at e; exact nomatch e), num_dp hq, hy, hl, fun _ => q, fun e => (by rw [hf.1] at e; exact nomatch e), fun e => (by rw [hf.1] at e; exact nomatch e)⟩))⟩
/-! ### displays whose parts have a property in common -/
section
variable {K : PySem.W.Frag} {tp ca : Addr} {σ : L2.St} {H : Hp} {te tf : TE} {ta : TA} {D D' : PyData → Prop}
def PA1 (D : PyData → Prop) (n : Nat) (l : List PyData) : Prop := l.length = n ∧ ∀ d ∈ l, D d
theorem px_mono (h : PX K tp ca te σ H D') (q : ∀ d, D' d → D d) : PX K tp ca te σ H D := fun H1 r Q k => h H1 r Q fun v H2 d r2 hd hv => k v H2 d r2 (q d hd) hv
theorem pxs_n1 : PXs K tp ca tNil σ H (PA1 D 0) := fun H1 r Q q => q [] H1 [] (Rn.refl r.b) ⟨rfl, (fun _ z => nomatch z)⟩ .nil
theorem pxs_c1 {n : Nat} (h : PX K tp ca te σ H D) (hs : PXs K tp ca ta σ H (PA1 D n)) : PXs K tp ca (tCons te ta) σ H (PA1 D (n + 1)) := fun H1 r Q q => pxs_cons h hs H1 r Q fun vs H2 ds R2 hd hv => q vs H2 ds R2 (by
  obtain ⟨d, l, rfl, h1, h2, h3⟩ := hd
  refine ⟨congrArg (· + 1) h2, fun e he => ?_⟩
  rcases List.mem_cons.mp he with rfl | he
  · exact h1
  · exact h3 e he) hv
theorem px_c1 {d : PyData} (h : PX K tp ca te σ H (· = d)) (g : D d) : PX K tp ca te σ H D := px_mono h fun e he => by rw [he]; exact g
/-- a display of a tuple, a list -/
theorem px_tup1 {n : Nat} {Q : VK} (hT : Tape K H tp ca) (h : PXs K tp ca ta σ H (PA1 D n)) (hn : n ≤ 1000) (q : ∀ v H' ds, Rn K tp ca H H' → ds.length = n → (∀ d ∈ ds, D d) → Dp K (offS [tp] H') v (.tuple ds) → Q v H') : tTup ta σ H Q :=
  px_use hT (px_tup h fun ds hd => by have := hd.1; omega) fun v H' d R hd hv => by
    obtain ⟨ds, rfl, h1, h2⟩ := hd
    exact q v H' ds R h1 h2 hv
theorem px_lst1 {n : Nat} {Q : VK} (hT : Tape K H tp ca) (h : PXs K tp ca ta σ H (PA1 D n)) (hn : n ≤ 1000) (q : ∀ v H' ds, Rn K tp ca H H' → ds.length = n → (∀ d ∈ ds, D d) → LVal K [tp] H' v ds → Q v H') : tLst ta σ H Q :=
  h H (Rn.refl hT) _ fun vs H2 ds r2 hG h2 => by
    have hl1 := dps_len h2
    have hl2 := hG.1
    have hsl := sizeLine_eq
    exact ⟨by omega, fun p hp => q _ _ ds (r2.same (same_new hp)) hl2 hG.2 ⟨p, vs, rfl, by rw [offS_ne (r2.b.inD.new hp)]; exact upd_same, dps_same (GoS.of (same_new hp)) h2⟩⟩
/-- list(t), a tuple -/
theorem px_list {ds : List PyData} {r : List V → Hp → VK → Prop} (hr : r = fun xs H Q => ∃ p ys, xs = [.ref p] ∧ (SqL K H p ys ∨ SqT K H p ys) ∧ ∀ l, H l = none → Q (.ref l) (upd H l (.lst ys))) (h : PX K tp ca te σ H (· = .tuple ds)) : PX K tp ca (tCB r (tCons te tNil)) σ H (· = .list ds) := fun H1 R Q q => h H1 R _ fun v H2 d R2 hd hv => by
  subst hr
  obtain rfl := hd
  obtain ⟨a, xs, rfl, hs, hx, _⟩ := dp_tup hv
  exact ⟨a, xs, rfl, .inr (same_sqt offS_same hs), fun l hl => q _ _ _ (R2.same (same_new hl)) rfl (.lst (sql_offS upd_same (R2.b.inD.new hl)) (dps_same (GoS.of (same_new hl)) hx))⟩
theorem px_catE {ds es : List PyData} (ha : PX K tp ca te σ H (· = .tuple ds)) (hb : PX K tp ca tf σ H (· = .tuple es)) (h1 : ds.length ≤ 5000) (h2 : es.length ≤ 5000) : PX K tp ca (tOp (rCatA K) te tf) σ H (· = .tuple (ds ++ es)) :=
  px_mono (px_cat ha hb (fun d e => ⟨ds, e, h1⟩) (fun d e => ⟨es, e, h2⟩)) fun d hd => by
    obtain ⟨a, b, rfl, e1, e2⟩ := hd
    injection e1 with e1
    injection e2 with e2
    rw [e1, e2]
theorem px_tupE1 {d : PyData} (h : PX K tp ca te σ H (· = d)) : PX K tp ca (tTup (tCons te tNil)) σ H (· = .tuple [d]) :=
  px_mono (px_tup (pxs_cons h pxs_nil) (by
    rintro ds ⟨e, l, rfl, rfl, rfl⟩
    show 1 ≤ 1000
    decide)) fun x hx => by
    obtain ⟨ds, rfl, e, l, rfl, rfl, rfl⟩ := hx
    rfl
end
end K23
set_option Elab.async false
set_option linter.all false
set_option maxRecDepth 100000
set_option maxHeartbeats 8000000
namespace K23
open PySem PySem.Spec PyProof.Rows L2 Dt K23S
/-! ### how deep, how many -/
theorem up_len (p : Ad) : (up p).length = p.length := by cases p <;> rfl
theorem adF_ht : ∀ (t : Dt) (p : Ad), p ∈ adF t → p.length ≤ t.ht
  | .x, p, h => nomatch h
  | .o, p, h => nomatch h
  | .c k r, p, h => by
    have h' : p ∈ (([] :: adF k).map (List.cons 0)) ++ (adF r).map up := h
    show p.length ≤ max (k.ht + 1) r.ht
    rcases List.mem_append.mp h' with h | h
    · obtain ⟨q, hq, rfl⟩ := List.mem_map.mp h
      rcases List.mem_cons.mp hq with rfl | hq
      · show 1 ≤ _
        omega
      · have := adF_ht k q hq
        show q.length + 1 ≤ _
        omega
    · obtain ⟨q, hq, rfl⟩ := List.mem_map.mp h
      have := adF_ht r q hq
      rw [up_len]
      omega
theorem lens_ht {d : PyData} {i n : Nat} (h : (lens d)[i]? = some n) : n ≤ (dtOf d).ht := by
  have := List.mem_of_getElem? h
  unfold lens at this
  obtain ⟨p, hp, rfl⟩ := List.mem_map.mp this
  unfold lv at hp
  have hp := (List.mem_filter.mp hp).1
  rcases List.mem_cons.mp hp with rfl | hp
  · exact Nat.zero_le _
  · exact adF_ht _ p hp
theorem lens_len (d : PyData) : (lens d).length ≤ nd d := by
  unfold lens nd
  rw [List.length_map, ← ad_len]
  exact List.length_filter_le _ _
theorem lens_pos : ∀ (n : Nat) (d : PyData), nd d ≤ n → (dtOf d).good 1 = true → 1 ≤ (lens d).length
  | 0, d, h, _ => by
    have := nodes_pos (dtOf d)
    unfold nd at h
    omega
  | n + 1, d, h, g => by
    obtain ⟨ds, rfl, _, hk⟩ := good_inv g
    cases ds with
    | nil =>
      rw [lens_leaf]
      exact Nat.le_refl 1
    | cons e es =>
      rw [lens_tup (by simp), List.flatMap_cons, List.length_append, List.length_map]
      rw [nd_tup] at h
      have e2 : nds (e :: es) = nd e + nds es := rfl
      have := lens_pos n e (by omega) (hk e (by simp))
      omega
/-! ### _law_ways -/
def spWays (K : PySem.W.Frag) : Sp := fun vs H Q _ => ∃ (tp ca : Addr), vs = [.ref tp] ∧ Tape K H tp ca ∧ ∀ H', Rn K tp ca H H' → Q (.bl true) H'
def deepsV (d : PyData) : List V := (lens d).map fun n => V.int ((n + 1 : Nat) : Int)
structure WS (K : PySem.W.Frag) (tp ca : Addr) (fv : V) (fd : PyData) (L : Addr) (H : Hp) : Prop where
  t : Tape K H tp ca
  d : Dp K (offS [tp] H) fv fd
  ok : FormOK fd
  l : H L = some (.lst (deepsV fd))
  n : L ≠ tp
theorem WS.rn {K : PySem.W.Frag} {tp ca L : Addr} {fv : V} {fd : PyData} {H H' : Hp} (h : WS K tp ca fv fd L H) (r : Rn K tp ca H H') : WS K tp ca fv fd L H' := ⟨r.b, dp_same (goT r) h.d, h.ok, r.at h.l h.n, h.n⟩
theorem WS.on {K : PySem.W.Frag} {tp ca L : Addr} {fv : V} {fd : PyData} {H : Hp} (h : WS K tp ca fv fd L H) : Dp K H fv fd := dp_onS h.d
theorem WS.len {K : PySem.W.Frag} {tp ca L : Addr} {fv : V} {fd : PyData} {H : Hp} (h : WS K tp ca fv fd L H) : 1 ≤ (lens fd).length ∧ (lens fd).length ≤ 20 := ⟨lens_pos _ _ (Nat.le_refl _) h.ok.good, Nat.le_trans (lens_len fd) h.ok.nd⟩
theorem deepsV_len (d : PyData) : (deepsV d).length = (lens d).length := List.length_map ..
theorem deepsV_at {d : PyData} {i n : Nat} (h : (lens d)[i]? = some n) : (deepsV d)[i]? = some (.int ((n + 1 : Nat) : Int)) := by
  unfold deepsV
  rw [List.getElem?_map, h]
  rfl
def tRks (K : PySem.W.Frag) (i0 id iq ik im : Nat) : TE := fun σ H Q => ∃ (tp ca L : Addr) (q n m : Nat) (xs : List V), Tape K H tp ca ∧ (∀ y, ((wipe σ [ik]).set ik (some y))[i0]? = some (some (.ref tp))) ∧ σ[id]? = some (some (.ref L)) ∧ σ[iq]? = some (some (.int (q : Nat))) ∧ (∀ y, ((wipe σ [ik]).set ik (some y))[im]? = some (some (.int (m : Nat)))) ∧
  H L = some (.lst xs) ∧ xs[q]? = some (.int (n : Nat)) ∧ n ≤ 100 ∧ (∀ y, wipe ((wipe σ [ik]).set ik (some y)) [ik] = wipe σ [ik]) ∧
  ∀ H' v rs, Rn K tp ca H H' → rs.length = n → RanksI rs → Dp K (offS [tp] H') v (ranksD rs) → Q v H'
def wordsR : List Str := ["ranks", "named ranks"]
theorem wordsR_in {w : Str} (h : w ∈ wordsR) : w = "ranks" ∨ w = "named ranks" := by
  simpa [wordsR] using h
/-- is what is asked for, at slot iy, of the named verdict -/
def tWA (K : PySem.W.Frag) (w : L2.St → Str → Prop) (iy : Nat) (b : Bool) : TS := fun D σ H => ∃ (z : Str) (fv : V) (fd : PyData) (q n : Nat) (y : V) (d : PyData), w σ z ∧ z ∈ wordsR ∧ σ[1]? = some (some fv) ∧ σ[3]? = some (some (.int (q : Nat))) ∧ σ[iy]? = some (some y) ∧ Dp K H fv fd ∧ FormOK fd ∧ (lens fd)[q]? = some n ∧ Dp K H y d ∧ (∀ ds, d = .tuple ds → ds.length ≤ 1000000) ∧ fitOf (n + 1) d = b ∧ ∀ H', Same H H' → D.nx σ H'
def tW3 (K : PySem.W.Frag) : TS := fun D σ H => ∃ (fv : V) (fd : PyData) (L : Addr) (k n : Nat) (gv : V) (rs : List (List Int)), σ[1]? = some (some fv) ∧ σ[2]? = some (some (.ref L)) ∧ σ[5]? = some (some (.int (k : Nat))) ∧ σ[6]? = some (some gv) ∧ Dp K H fv fd ∧ FormOK fd ∧ H L = some (.lst (deepsV fd)) ∧ (lens fd)[k]? = some n ∧ Dp K H gv (ranksD rs) ∧ RanksI rs ∧ rs.length ≤ 1000 ∧ ∀ H', Same H H' → D.nx σ H'
def BadFit (n : Nat) (d : PyData) : Prop := fitOf n d = false ∧ ∀ ds, d = .tuple ds → ds.length ≤ 1000
def tSpoil (K : PySem.W.Frag) : TE := fun σ H Q => ∃ (tp ca : Addr) (gv hv tv : V) (rs : List (List Int)) (r : Nat), Tape K H tp ca ∧ σ[0]? = some (some (.ref tp)) ∧ σ[6]? = some (some gv) ∧ σ[8]? = some (some (.int (r : Nat))) ∧ σ[9]? = some (some hv) ∧ σ[10]? = some (some tv) ∧ RanksI rs ∧ r < rs.length ∧ rs.length ≤ 100 ∧ Dp K (offS [tp] H) gv (ranksD rs) ∧ Dp K (offS [tp] H) hv (ranksD (rs.take r)) ∧ Dp K (offS [tp] H) tv (ranksD (rs.drop (r + 1))) ∧
  ∀ H' v bs, Rn K tp ca H H' → (∀ d ∈ bs, BadFit rs.length d) → LVal K [tp] H' v bs → Q v H'
theorem px_bad {K : PySem.W.Frag} {tp ca : Addr} {σ : L2.St} {H : Hp} (h0 : σ[0]? = some (some (.ref tp))) : PX K tp ca (tCall (spBadRank K) [] E0 (tCons (tVar 0) tNil)) σ H BadR := fun H1 r Q q => ⟨_, h0, tp, ca, rfl, r.b, fun H2 v d R2 hb f => q v H2 d R2 hb (f.offS r.b.inD)⟩
theorem spoil_t {K : PySem.W.Frag} {σ : L2.St} {H : Hp} {Q : VK} {r1 r2 : List V → Hp → VK → Prop} (e1 : r1 = fun xs H Q => ∃ p ys, xs = [.ref p] ∧ (SqL K H p ys ∨ SqT K H p ys) ∧ ∀ l, H l = none → Q (.ref l) (upd H l (.lst ys))) (e2 : r2 = r1) (h : tSpoil K σ H Q) :
    tLst (tCons (tCB r1 (tCons (tVar 6) tNil)) (tCons (tOp (rCatA K) (tVar 9) (tVar 10)) (tCons (tOp (rCatA K) (tVar 6) (tTup (tCons (tOp (rIxT K) (tVar 6) (tVar 8)) tNil))) (tCons (tOp (rCatA K) (tOp (rCatA K) (tVar 9) (tTup (tCons (tCall (spBadRank K) [] E0 (tCons (tVar 0) tNil)) tNil))) (tVar 10)) (tCons (tC .non) (tCons (tC (.str (Str.ofString ""))) (tCons (tTup (tCons (tVar 6) tNil)) (tCons (tC (.int 3)) (tCons (tTup tNil)
      (tCons (tOp (rCatA K) (tOp (rCatA K) (tVar 9) (tTup (tCons (tCB r2 (tCons (tOp (rIxT K) (tVar 6) (tVar 8)) tNil)) tNil))) (tVar 10)) tNil)))))))))) σ H Q := by
  subst e2
  obtain ⟨tp, ca, gv, hv, tv, rs, r, hT, h0, h6, h8, h9, h10, hrs, hr, hn, hg, hh, ht, k⟩ := h
  have l1 : ((rs.take r).map intsD).length = r := by
    rw [List.length_map, List.length_take]
    omega
  have l2 : ((rs.drop (r + 1)).map intsD).length = rs.length - (r + 1) := by
    rw [List.length_map, List.length_drop]
  have l3 : (rs.map intsD).length = rs.length := List.length_map ..
  have x6 : PX K tp ca (tVar 6) σ H (· = .tuple (rs.map intsD)) := px_var h6 hg
  have x9 : PX K tp ca (tVar 9) σ H (· = .tuple ((rs.take r).map intsD)) := px_var h9 hh
  have x10 : PX K tp ca (tVar 10) σ H (· = .tuple ((rs.drop (r + 1)).map intsD)) := px_var h10 ht
  have hat : (rs.map intsD)[r]? = some (intsD (rs[r]'hr)) := by
    rw [List.getElem?_map, List.getElem?_eq_getElem hr]
    rfl
  have xat : PX K tp ca (tOp (rIxT K) (tVar 6) (tVar 8)) σ H (· = intsD (rs[r]'hr)) := px_pv fun H1 R => pv_ix (pv_var h6 (dp_same (goT R) hg)) (pn_v h8) hat
  have big : ∀ {ds : List PyData}, ds.length ≤ 1000 → ∀ es, PyData.tuple ds = .tuple es → es.length ≤ 1000 := fun h es e => by
    injection e with e
    rw [← e]
    exact h
  have mid : ∀ {te : TE} {D : PyData → Prop}, PX K tp ca te σ H D → (∀ d, D d → rankOf d = false) → PX K tp ca (tOp (rCatA K) (tOp (rCatA K) (tVar 9) (tTup (tCons te tNil))) (tVar 10)) σ H (BadFit rs.length) := fun {te D} hp hb => by
    have z := px_cat (px_cat x9 (px_tup (pxs_cons hp pxs_nil) (by
      rintro ds ⟨e, l, rfl, he, rfl⟩
      show 1 ≤ 1000
      decide)) (fun d hd => ⟨_, hd, by omega⟩) (by
      rintro d ⟨ds, rfl, e, l, rfl, he, rfl⟩
      exact ⟨_, rfl, by show 1 ≤ 5000; decide⟩)) x10 (by
      rintro d ⟨a, b, rfl, e1, ds, e2, e, l, rfl, he, rfl⟩
      refine ⟨_, rfl, ?_⟩
      injection e1 with e1
      injection e2 with e2
      rw [e1, e2, List.length_append, l1]
      show r + 1 ≤ 5000
      omega) (fun d hd => ⟨_, hd, by omega⟩)
    refine px_mono z fun d hd => ?_
    obtain ⟨a, b, rfl, ⟨a1, b1, e0, e1, ds, e2, e, l, rfl, he, rfl⟩, e3⟩ := hd
    injection e0 with e0
    injection e1 with e1
    injection e2 with e2
    injection e3 with e3
    subst e0
    subst e1
    subst e2
    subst e3
    refine ⟨fit_bad (d := e) (by simp) (hb e he), big ?_⟩
    rw [List.length_append, List.length_append, l1, l2]
    show r + 1 + _ ≤ 1000
    omega
  have p1 : PX K tp ca (tCB r2 (tCons (tVar 6) tNil)) σ H (BadFit rs.length) := px_c1 (px_list e1 x6) ⟨rfl, fun ds e => nomatch e⟩
  have p2 : PX K tp ca (tOp (rCatA K) (tVar 9) (tVar 10)) σ H (BadFit rs.length) := px_c1 (px_catE x9 x10 (by omega) (by omega)) ⟨fit_len (by rw [List.length_append, l1, l2]; omega), big (by rw [List.length_append, l1, l2]; omega)⟩
  have p3 : PX K tp ca (tOp (rCatA K) (tVar 6) (tTup (tCons (tOp (rIxT K) (tVar 6) (tVar 8)) tNil))) σ H (BadFit rs.length) := px_c1 (px_catE x6 (px_tupE1 xat) (by omega) (by show 1 ≤ 5000; decide)) ⟨fit_len (by rw [List.length_append, l3]; show rs.length + 1 ≠ _; omega), big (by rw [List.length_append, l3]; show rs.length + 1 ≤ _; omega)⟩
  have p4 := mid (px_bad (ca := ca) (K := K) (H := H) h0) fun d hd => hd.2.1
  have p5 : PX K tp ca (tC .non) σ H (BadFit rs.length) := px_c1 (px_pv fun _ _ => pv_non) ⟨rfl, fun ds e => nomatch e⟩
  have p6 : PX K tp ca (tC (.str (Str.ofString ""))) σ H (BadFit rs.length) := px_c1 (px_pv fun _ _ => pv_str) ⟨rfl, fun ds e => nomatch e⟩
  have p7 : PX K tp ca (tTup (tCons (tVar 6) tNil)) σ H (BadFit rs.length) := px_c1 (px_tupE1 x6) ⟨fit_bad (List.mem_singleton.mpr rfl) (rank_ranks fun z => by rw [z] at hr; exact nomatch hr), big (by show 1 ≤ 1000; decide)⟩
  have p8 : PX K tp ca (tC (.int 3)) σ H (BadFit rs.length) := px_c1 (px_n pn_c) ⟨rfl, fun ds e => nomatch e⟩
  have p9 : PX K tp ca (tTup tNil) σ H (BadFit rs.length) := px_mono (px_tup pxs_nil (by rintro ds rfl; exact Nat.zero_le _)) (by
    rintro d ⟨ds, rfl, rfl⟩
    exact ⟨fit_len (by show 0 ≠ _; omega), big (by show 0 ≤ 1000; decide)⟩)
  have p10 := mid (px_list (r := r2) e1 xat) (by rintro d rfl; rfl)
  refine px_lst1 hT (pxs_c1 p1 (pxs_c1 p2 (pxs_c1 p3 (pxs_c1 p4 (pxs_c1 p5 (pxs_c1 p6 (pxs_c1 p7 (pxs_c1 p8 (pxs_c1 p9 (pxs_c1 p10 pxs_n1)))))))))) (by decide) fun v H' ds R _ hb hv => k H' v ds R hb hv
end K23
set_option Elab.async false
set_option linter.all false
set_option maxRecDepth 100000
set_option maxHeartbeats 8000000
namespace K23
open PySem PySem.Spec PyProof.Rows L2 Dt K23S
def tWr (K : PySem.W.Frag) : TE := fun σ H Q => ∃ (tp ca : Addr) (fd : PyData) (L : Addr) (q : Nat), Tape K H tp ca ∧ σ[2]? = some (some (.ref L)) ∧ σ[3]? = some (some (.int (q : Nat))) ∧ H L = some (.lst (deepsV fd)) ∧ L ≠ tp ∧ q < 1000 ∧
  ∀ H' v bs, Rn K tp ca H H' → (∀ d ∈ bs, belowB ((lens fd).length : Nat) (numOf d) = false) → Dp K (offS [tp] H') v (.tuple bs) → Q v H'
theorem wrong_t {K : PySem.W.Frag} {σ : L2.St} {H : Hp} {Q : VK} {r1 r2 : List V → Hp → VK → Prop} (e1 : r1 = rLenQ K) (e2 : r2 = fun xs H Q => ∃ i, xs = [.int i] ∧ i.natAbs.log2 < 1920 ∧ Q (.str (toString i)) H) (h : tWr K σ H Q) :
    tTup (tCons (tCB r1 (tCons (tVar 2) tNil)) (tCons (tUn (rU fun i => .int (-i)) (tC (.int 1))) (tCons (tC .non) (tCons (tC (.bl true)) (tCons (tTup (tCons (tVar 3) tNil)) (tCons (tCB r2 (tCons (tVar 3) tNil)) tNil)))))) σ H Q := by
  obtain ⟨tp, ca, fd, L, q, hT, h2, h3, hl, ln, hq, k⟩ := h
  have p1 : PX K tp ca (tCB r1 (tCons (tVar 2) tNil)) σ H (fun d => belowB ((lens fd).length : Nat) (numOf d) = false) := fun H1 R Q q => by
    subst e1
    refine ⟨_, h2, L, _, rfl, .inl (SqL.of (R.at hl ln)), q _ H1 _ (Rn.refl R.b) ?_ (.int _)⟩
    show (decide (0 ≤ (((deepsV fd).length : Nat) : Int)) && decide ((((deepsV fd).length : Nat) : Int) < ((lens fd).length : Nat))) = false
    rw [deepsV_len, decide_eq_false (show ¬ (((lens fd).length : Nat) : Int) < ((lens fd).length : Nat) by omega), Bool.and_false]
  have p6 : PX K tp ca (tCB r2 (tCons (tVar 3) tNil)) σ H (fun d => belowB ((lens fd).length : Nat) (numOf d) = false) := fun H1 R Q k2 => by
    subst e2
    have hlog : ((q : Nat) : Int).natAbs.log2 < 1920 := by
      rw [Int.natAbs_natCast]
      by_cases z : q = 0
      · rw [z]
        decide
      · exact (Nat.log2_lt z).mpr (Nat.lt_of_lt_of_le hq (Nat.le_trans (by decide : 1000 ≤ 2 ^ 10) (Nat.pow_le_pow_right (by decide) (by decide))))
    exact ⟨_, h3, _, rfl, hlog, k2 _ H1 _ (Rn.refl R.b) rfl (.str _)⟩
  refine px_tup1 hT (pxs_c1 p1 (pxs_c1 (px_c1 (px_n (pn_neg (pn_c (k := 1)))) ?_) (pxs_c1 (px_c1 (px_pv fun _ _ => pv_non) rfl) (pxs_c1 (px_c1 (px_pv fun _ _ => pv_bl) rfl) (pxs_c1 (px_c1 (px_tupE1 (px_n (pn_v h3))) rfl) (pxs_c1 p6 pxs_n1)))))) (by decide) fun v H' ds R _ hb hv => k H' v ds R hb hv
  rfl
def tWQ (K : PySem.W.Frag) : TS := fun D σ H => ∃ (fv wv gv : V) (fd wd gd : PyData), σ[1]? = some (some fv) ∧ σ[13]? = some (some wv) ∧ σ[6]? = some (some gv) ∧ Dp K H fv fd ∧ FormOK fd ∧ Dp K H wv wd ∧ belowB ((lens fd).length : Nat) (numOf wd) = false ∧ Dp K H gv gd ∧ (∀ ds, gd = .tuple ds → ds.length ≤ 1000000) ∧ ∀ H', Same H H' → D.nx σ H'
def tWF (K : PySem.W.Frag) : TS := fun D σ H => ∃ (tp ca : Addr) (wv gv : V) (wd gd : PyData), Tape K H tp ca ∧ σ[0]? = some (some (.ref tp)) ∧ σ[13]? = some (some wv) ∧ σ[6]? = some (some gv) ∧ Dp K (offS [tp] H) wv wd ∧ Dp K (offS [tp] H) gv gd ∧ (∀ ds, gd = .tuple ds → ds.length ≤ 1000000) ∧ ∀ H', Rn K tp ca H H' → D.nx σ H'
def tHead (K : PySem.W.Frag) (i6 i8 : Nat) : TE := fun σ H Q => ∃ (tp : Addr) (rs : List (List Int)) (r : Nat) (v : V), σ[i6]? = some (some v) ∧ σ[i8]? = some (some (.int (r : Nat))) ∧ InD [tp] H ∧ Dp K (offS [tp] H) v (ranksD rs) ∧ ∀ H' v', Same H H' → Dp K (offS [tp] H') v' (ranksD (rs.take r)) → Q v' H'
def tTail (K : PySem.W.Frag) (i6 i8 : Nat) : TE := fun σ H Q => ∃ (tp : Addr) (rs : List (List Int)) (r : Nat) (v : V), σ[i6]? = some (some v) ∧ σ[i8]? = some (some (.int (r : Nat))) ∧ InD [tp] H ∧ Dp K (offS [tp] H) v (ranksD rs) ∧ ∀ H' v', Same H H' → Dp K (offS [tp] H') v' (ranksD (rs.drop (r + 1))) → Q v' H'
def stW (tp : Addr) (fv : V) (L : Addr) (q m : Nat) (o5 : Option V) (gv : V) (o7 o8 o9 o10 o11 o12 o13 : Option V) : L2.St := [some (.ref tp), some fv, some (.ref L), some (.int (q : Nat)), some (.int (m : Nat)), o5, some gv, o7, o8, o9, o10, o11, o12, o13]
section
variable {P : Program} {w : World} {K : PySem.W.Frag} {mg : Str → Option Value} {base : Heap} {C U fI fG B S PA : Addr}
theorem ok_ways (D : DefAt K mg "_law_ways" s_law_ways ["tape"]) (T : Txt K mg) (GDraw : CalX P w K mg base CX0 1 "_law_draw" ["tape", "many"] (spDraw K)) (GSame : CalX P w K mg base CX0 6 "_law_same" ["one", "other"] (spSame K 6)) (GIs : CalX P w K mg base CX0 1 "_law_is" ["told", "due"] spIs)
    (GForm : CalX P w K mg base CX0 2 "_law_form" ["tape"] (spForm K)) (GDeeps : CalX P w K mg base CX0 1 "_law_deeps" ["form"] (spDeeps K)) (GBadForm : CalX P w K mg base CX0 2 "_law_bad_form" ["tape"] (spBadForm K))
    (GRank : CalX P w K mg base CX0 2 "_law_rank" ["tape", "manner"] (spMkRank K)) (GBadRank : CalX P w K mg base CX0 2 "_law_bad_rank" ["tape"] (spBadRank K)) (GAsk : CalX P w K mg base CX0 25 "_law_ask" ["word", "one", "two", "three"] (spAsk K 6)) : CalX P w K mg base CX0 26 "_law_ways" ["tape"] (spWays K) := by
  refine D.ok sc_law_ways (fun vs H Q E h => ?_) (fun f cdv A outer s H vs Q E hr h => ?_)
  · obtain ⟨tp, ca, rfl, _⟩ := h
    rfl
  obtain ⟨tp, ca, rfl, hT, q0⟩ := h
  refine ⟨_, (pss_cons (ps_set (i := 1) sc_law_ways.nd rfl (.inl rfl) (pe_c0 GForm hr (by decide) rfl (pa_cons (pv 0) pa_nil))) 
    (pss_cons (ps_set (i := 2) sc_law_ways.nd rfl (.inl rfl) (pe_c0 GDeeps hr (by decide) rfl (pa_cons (pv 1) pa_nil))) 
    (pss_cons (ps_set (i := 3) sc_law_ways.nd rfl (.inl rfl) (pe_c0 GDraw hr (by decide) rfl (pa_cons (pv 0) (pa_cons (pe_callB call_len_seq (by rfl) T.len PySem.boot_len (pa_cons (pv 2) pa_nil)) pa_nil)))) 
    (pss_cons (ps_set (i := 4) sc_law_ways.nd rfl (.inr rfl) (pe_c0 GDraw hr (by decide) rfl (pa_cons (pv 0) (pa_cons pe_int pa_nil)))) 
    (pss_cons (ps_set (i := 6) sc_law_ways.nd rfl (.inl rfl) (pe_conv (t' := tRks K 0 2 3 5 4) (pe_callTy call_tuple_of (by rfl) T.tuple PyProof.Rows.boot_tuple (pa_cons (pe_lc (own := [("k", 5)]) (g := gName 5) (tt := tYes) (by rfl) sc_law_ways.nd (pi_range1 (by rfl) T.range (pa_cons (pe_ix ix_list (pv 2) (pv 3) (fun _ _ => rfl)) pa_nil)) (blkOk_by (own := [("k", 5)]) (N := N_law_ways) (sc := defScope s_law_ways) (by decide +kernel)) (fun _ _ _ _ _ => pg_name (i := 5) sc_law_ways.nd rfl (Or.inl rfl)) (fun _ _ _ _ _ => pts_nil) (fun _ _ _ _ _ => by exact (pe_c0 GRank hr (by decide) rfl (pa_cons (pv 0) (pa_cons (pv 4) pa_nil))))) pa_nil)) (by
        rintro σ H Q ⟨tp, ca, L, q, n, m, xs, hT, h0, h2, h3, h4, hL, hx, hn, hw, k⟩
        exact ranks_read rfl hT h0 h2 h3 h4 hL hx hn hw k))) 
    (pss_cons (ps_for PassesOwn.never rfl (pi_tup (pe_tup (pa_cons pe_str (pa_cons pe_str pa_nil)))) (pg_name (i := 7) sc_law_ways.nd rfl (Or.inl rfl)) 
      (pss_one (ps_conv (t' := tWA K (fun σ z => σ[7]? = some (some (.str z))) 6 true) (ps_if (pt_cmpR op_isnot_bl (pe_c0 GAsk hr (by decide) rfl (pa_cons (pv 7) (pa_cons (pv 1) (pa_cons (pv 3) (pa_cons (pv 6) pa_nil))))) pe_bl (nomark _)) 
        (pss_one (ps_ret pe_bl)) pss_nil) (by
        rintro D σ H ⟨z, fv, fd, q, n, y, d, hz, hzw, h1, h3, hy, dx, hf, hq, dy, hl, hb, k⟩
        refine ⟨_, hz, _, h1, _, h3, _, hy, ?_⟩
        dsimp only [L2.tNil, L2.tCons, L2.tC]
        refine ask_ranks (wordsR_in hzw) dx hf (.int _) dy hl (.inr ⟨q, n, rfl, hq, fun H1 s1 => ⟨_, _, rfl, rfl, _, rfl, ?_⟩⟩)
        rw [hb]
        exact iteF (k H1 s1))))) 
    (pss_cons (ps_set (i := 8) sc_law_ways.nd rfl (.inl rfl) (pe_c0 GDraw hr (by decide) rfl (pa_cons (pv 0) (pa_cons (pe_callB call_len_seq (by rfl) T.len PySem.boot_len (pa_cons (pv 6) pa_nil)) pa_nil)))) 
    (pss_cons (ps_set (i := 9) sc_law_ways.nd rfl (.inl rfl) (pe_conv (t' := tHead K 6 8) (pe_slice sl_tupA (pv 6) po_none (po_some (pv 8))) (by
        rintro σ H Q ⟨tp, rs, r, v, h6, h8, hS, hv, k⟩
        refine pv_use (pv_take hS (pv_var h6 (show Dp K (offS [tp] H) v (.tuple (rs.map intsD)) from hv)) (pn_v h8)) fun v' H' s hv' => k H' v' s ?_
        rw [← List.map_take] at hv'
        exact hv'))) 
    (pss_cons (ps_set (i := 10) sc_law_ways.nd rfl (.inl rfl) (pe_conv (t' := tTail K 6 8) (pe_slice sl_tupA (pv 6) (po_some (pe_op op_add (pv 8) pe_int)) po_none) (by
        rintro σ H Q ⟨tp, rs, r, v, h6, h8, hS, hv, k⟩
        have n1 : PN (tOp (rI0 fun i j => .int (i + j)) (tVar 8) (tC (.int 1))) σ ((r + 1 : Nat) : Int) := pn_add (pn_v h8) pn_c
        refine pv_use (pv_drop hS (pv_var h6 (show Dp K (offS [tp] H) v (.tuple (rs.map intsD)) from hv)) n1) fun v' H' s hv' => k H' v' s ?_
        rw [← List.map_drop] at hv'
        exact hv'))) 
    (pss_cons (ps_set (i := 11) sc_law_ways.nd rfl (.inl rfl) (pe_conv (t' := tSpoil K) (pe_lst (pa_cons (pe_callTy call_list_of (by rfl) T.list (by decide +kernel) (pa_cons (pv 6) pa_nil)) (pa_cons (pe_op op_catA (pv 9) (pv 10)) (pa_cons (pe_op op_catA (pv 6) (pe_tup (pa_cons (pe_ix ix_tup (pv 6) (pv 8) (fun _ _ => rfl)) pa_nil))) (pa_cons (pe_op op_catA (pe_op op_catA (pv 9) (pe_tup (pa_cons (pe_c0 GBadRank hr (by decide) rfl (pa_cons (pv 0) pa_nil)) pa_nil))) (pv 10)) (pa_cons pe_non (pa_cons pe_str (pa_cons (pe_tup (pa_cons (pv 6) pa_nil)) (pa_cons pe_int (pa_cons (pe_tup pa_nil) (pa_cons (pe_op op_catA (pe_op op_catA (pv 9) (pe_tup (pa_cons (pe_callTy call_list_of (by rfl) T.list (by decide +kernel) (pa_cons (pe_ix ix_tup (pv 6) (pv 8) (fun _ _ => rfl)) pa_nil)) pa_nil))) (pv 10)) pa_nil))))))))))) (by
        exact fun σ H Q h => spoil_t rfl rfl h))) 
    (pss_cons (ps_for PassesOwn.never rfl (pi_list (pv 11)) (pg_name (i := 12) sc_law_ways.nd rfl (Or.inl rfl)) 
      (pss_one (ps_conv (t' := tWA K (fun _ z => z = Str.ofString "ranks") 12 false) (ps_if (pt_cmpR op_isnot_bl (pe_c0 GAsk hr (by decide) rfl (pa_cons pe_str (pa_cons (pv 1) (pa_cons (pv 3) (pa_cons (pv 12) pa_nil))))) pe_bl (nomark _)) 
        (pss_one (ps_ret pe_bl)) pss_nil) (by
        rintro D σ H ⟨z, fv, fd, q, n, y, d, hz, hzw, h1, h3, hy, dx, hf, hq, dy, hl, hb, k⟩
        refine ⟨_, h1, _, h3, _, hy, ?_⟩
        dsimp only [L2.tNil, L2.tCons, L2.tC]
        refine ask_ranks (.inl rfl) dx hf (.int _) dy hl (.inr ⟨q, n, rfl, hq, fun H1 s1 => ⟨_, _, rfl, rfl, _, rfl, ?_⟩⟩)
        rw [hb]
        exact iteF (k H1 s1))))) 
    (pss_cons (ps_for PassesOwn.never rfl (pi_range1 (by rfl) T.range (pa_cons (pe_callB call_len_seq (by rfl) T.len PySem.boot_len (pa_cons (pv 2) pa_nil)) pa_nil)) (pg_name (i := 5) sc_law_ways.nd rfl (Or.inl rfl)) 
      (pss_one (ps_conv (t' := tW3 K) (ps_if (pt_not (pt_val (pe_c0 GIs hr (by decide) rfl (pa_cons (pe_c0 GAsk hr (by decide) rfl (pa_cons pe_str (pa_cons (pv 1) (pa_cons (pv 5) (pa_cons (pv 6) pa_nil))))) (pa_cons (pe_cmpR op_eq (pe_ix ix_list (pv 2) (pv 5) (fun _ _ => rfl)) (pe_callB call_len_seq (by rfl) T.len PySem.boot_len (pa_cons (pv 6) pa_nil)) (nomark _)) pa_nil))))) 
        (pss_one (ps_ret pe_bl)) pss_nil) (by
        rintro D σ H ⟨fv, fd, L, i, n, gv, rs, h1, h2, h5, h6, dx, hf, hL, hk, dg, hrs, hn, q⟩
        refine ⟨_, h1, _, h5, _, h6, ?_⟩
        dsimp only [L2.tNil, L2.tCons, L2.tC]
        refine ask_ranks (.inl rfl) dx hf (.int _) dg (fun ds e => (by injection e with e; rw [← e, List.length_map]; omega)) (.inr ⟨i, n, rfl, hk, fun H1 s1 => ?_⟩)
        obtain ⟨ga, gxs, rfl, hgs, hgx, hgl⟩ := dp_tup (dp_same s1 dg)
        rw [List.length_map] at hgl
        refine ⟨_, h2, _, h5, L, _, i, _, rfl, rfl, SqL.of (s1 _ _ hL), atI_nat (deepsV_at hk), _, h6, ga, _, rfl, .inr hgs, rfl, _, _, rfl, _, rfl, ?_⟩
        have e : decide (fitOf (n + 1) (ranksD rs) = decide (V.int ((n + 1 : Nat) : Int) = V.int (gxs.length : Nat))) = true := by
          refine decide_eq_true ?_
          rw [fit_good hrs, hgl]
          by_cases c : rs.length = n + 1
          · rw [c, decide_eq_true rfl, decide_eq_true rfl]
          · rw [decide_eq_false c, decide_eq_false fun z => c (by injection z with z; omega)]
        rw [e]
        exact iteF (q H1 s1))))) 
    (pss_cons (ps_for PassesOwn.never rfl (pi_tup (pe_conv (t' := tWr K) (pe_tup (pa_cons (pe_callB call_len_seq (by rfl) T.len PySem.boot_len (pa_cons (pv 2) pa_nil)) (pa_cons (pe_un un_neg pe_int) (pa_cons pe_non (pa_cons pe_bl (pa_cons (pe_tup (pa_cons (pv 3) pa_nil)) (pa_cons (pe_callTy call_str_int (by rfl) T.str (by decide +kernel) (pa_cons (pv 3) pa_nil)) pa_nil))))))) (by
        exact fun σ H Q h => wrong_t rfl rfl h))) (pg_name (i := 13) sc_law_ways.nd rfl (Or.inl rfl)) 
      (pss_cons (ps_conv (t' := tWQ K) (ps_if (pt_not (pt_val (pe_c0 GSame hr (by decide) rfl (pa_cons (pe_c0 GAsk hr (by decide) rfl (pa_cons pe_str (pa_cons (pv 1) (pa_cons (pv 13) (pa_cons (pv 6) pa_nil))))) (pa_cons (pe_conv (t' := tRefD K "queue") (pe_tup (pa_cons pe_str (pa_cons pe_str (pa_cons (pe_un un_neg pe_int) pa_nil)))) refd_t) pa_nil))))) 
        (pss_one (ps_ret pe_bl)) pss_nil) (by
        rintro D σ H ⟨fv, wv, gv, fd, wd, gd, h1, h13, h6, dx, hf, dw, hb, dg, hl, k⟩
        refine ⟨_, h1, _, h13, _, h6, ?_⟩
        dsimp only [L2.tNil, L2.tCons, L2.tC]
        refine ask_ranks (.inl rfl) dx hf dw dg hl (.inl ⟨hb, fun v H1 s1 f => ?_⟩)
        exact fun u H2 s2 hu => ⟨_, _, _, rfl, dp_same s2 f.dp, hu, plain_refd, fun H3 s3 => ⟨_, rfl, iteF (k H3 (s1.trans (s2.trans s3)))⟩⟩)) 
      (pss_one (ps_conv (t' := tWF K) (ps_if (pt_not (pt_val (pe_c0 GSame hr (by decide) rfl (pa_cons (pe_c0 GAsk hr (by decide) rfl (pa_cons pe_str (pa_cons (pe_c0 GBadForm hr (by decide) rfl (pa_cons (pv 0) pa_nil)) (pa_cons (pv 13) (pa_cons (pv 6) pa_nil))))) (pa_cons (pe_conv (t' := tRefD K "form") (pe_tup (pa_cons pe_str (pa_cons pe_str (pa_cons (pe_un un_neg pe_int) pa_nil)))) refd_t) pa_nil))))) 
        (pss_one (ps_ret pe_bl)) pss_nil) (by
        rintro D σ H ⟨tp, ca, wv, gv, wd, gd, hT, h0, h13, h6, dw, dg, hl, k⟩
        refine ⟨_, h0, tp, ca, rfl, hT, fun H1 bv bd R1 hb f => ?_⟩
        refine ⟨_, h13, _, h6, ?_⟩
        dsimp only [L2.tNil, L2.tCons, L2.tC]
        refine ask_badf (.inl rfl) f.dp hb (dp_onS (dp_same (goT R1) dw)) (dp_onS (dp_same (goT R1) dg)) hl fun v H2 s2 f2 => ?_
        exact fun u H3 s3 hu => ⟨_, _, _, rfl, dp_same s3 f2.dp, hu, plain_refd, fun H4 s4 => ⟨_, rfl, iteF (k H4 (((R1.same s2).same s3).same s4))⟩⟩))))) 
    (pss_one (ps_ret (pe_c0 GSame hr (by decide) rfl (pa_cons (pe_c0 GAsk hr (by decide) rfl (pa_cons pe_str (pa_cons (pv 1) (pa_cons (pe_un un_neg pe_int) (pa_cons pe_non pa_nil))))) (pa_cons (pe_conv (t' := tRefD K "queue") (pe_tup (pa_cons pe_str (pa_cons pe_str (pa_cons (pe_un un_neg pe_int) pa_nil)))) refd_t) pa_nil)))))))))))))))))), ?_⟩

  refine ⟨_, rfl, tp, ca, rfl, hT, fun H1 fv fd R1 hf hfd => ?_⟩
  refine ⟨_, rfl, fv, fd, rfl, dp_onS hfd, hf, fun H2 L s2 hL0 hL => ?_⟩
  have R2 := R1.same s2
  have W2 : WS K tp ca fv fd L H2 := ⟨R2.b, dp_same (GoS.of (S := [tp]) s2) hfd, hf, hL, R1.b.new hL0⟩
  obtain ⟨len1, len2⟩ := W2.len
  have dl := deepsV_len fd
  refine ⟨_, rfl, _, rfl, L, _, rfl, .inl (SqL.of W2.l), tp, ca, (lens fd).length, by rw [dl]; rfl, R2.b, by omega, by omega, fun H3 qi hqi R3 => ?_⟩
  refine ⟨_, rfl, tp, ca, 4, rfl, R3.b, by decide, by decide, fun H4 m hm R4 => ?_⟩
  have W4 := (W2.rn R3).rn R4
  have hq : (lens fd)[qi]? = some ((lens fd)[qi]'hqi) := List.getElem?_eq_getElem hqi
  generalize hN : (lens fd)[qi]'hqi = N at hq
  have hNh := lens_ht hq
  have hfh := hf.ht
  refine ⟨tp, ca, L, qi, N + 1, m, _, W4.t, (fun _ => rfl), rfl, rfl, (fun _ => rfl), W4.l, deepsV_at hq, by omega, (fun _ => rfl), fun H5 gv rs R5 hrl hrs hg => ?_⟩
  have W5 := W4.rn R5
  have Rall := R2.trans (R3.trans (R4.trans R5))
  have hfit : fitOf (N + 1) (ranksD rs) = true := by
    rw [fit_good hrs, decide_eq_true hrl]
  have big : ∀ ds, ranksD rs = .tuple ds → ds.length ≤ 1000000 := fun ds e => by
    injection e with e
    rw [← e, List.length_map]
    omega
  -- the two words
  refine ⟨(by show 2 ≤ sizeLine; decide), fun wp hwp => ?_⟩
  have sw := same_new (o := .tup (wordsR.map V.str)) hwp
  have hwt : SqT K (upd H5 wp (.tup (wordsR.map V.str))) wp (wordsR.map V.str) := SqT.of upd_same
  have R6 := Rn.of W5.t sw
  refine ⟨wp, rfl, ⟨_, hwt⟩, for_tup (K := K) (a := wp) (xs := wordsR.map V.str) (fun i σ H' => Same (upd H5 wp (.tup (wordsR.map V.str))) H' ∧ ∃ o7, σ = stW tp fv L qi m none gv o7 none none none none none none) ⟨same_refl, _, rfl⟩ (fun i σ H' _ hh => same_sqt hh.1 hwt) ?_ ?_⟩
  · rintro j y σ H7 hj ⟨s7, o7, rfl⟩
    rw [List.getElem?_map] at hj
    obtain ⟨z, hz, rfl⟩ := Option.map_eq_some_iff.mp hj
    have W7 := (W5.rn R6).rn (Rn.of R6.b s7)
    have g7 := dp_same (goT (R6.same s7)) hg
    exact ⟨z, fv, fd, qi, N, gv, ranksD rs, rfl, List.mem_of_getElem? hz, rfl, rfl, rfl, W7.on, hf, hq, dp_onS g7, big, hfit, fun H8 s8 => ⟨s7.trans s8, _, rfl⟩⟩
  rintro σ H7 ⟨s7, o7, rfl⟩
  have R7 := R6.same s7
  have W7 := W5.rn R7
  have g7 := dp_same (goT R7) hg
  obtain ⟨ga, gxs, rfl, hgs, hgx, hgl⟩ := dp_tup g7
  rw [List.length_map] at hgl
  refine ⟨_, rfl, _, rfl, ga, _, rfl, .inr (same_sqt offS_same hgs), tp, ca, rs.length, by rw [hgl]; rfl, W7.t, by omega, by omega, fun H8 r hr8 R8 => ?_⟩
  have W8 := W7.rn R8
  have g8 := dp_same (goT R8) g7
  have S8 : InD [tp] H8 := W8.t.inD
  refine ⟨tp, rs, r, _, rfl, rfl, S8, g8, fun H9 hv s9 hh => ?_⟩
  have R9 := Rn.of W8.t s9
  have W9 := W8.rn R9
  have g9 := dp_same (goT R9) g8
  refine ⟨tp, rs, r, _, rfl, rfl, W9.t.inD, g9, fun H10 tv s10 ht => ?_⟩
  have R10 := Rn.of W9.t s10
  have W10 := W9.rn R10
  have g10 := dp_same (goT R10) g9
  have hh10 := dp_same (goT R10) hh
  refine ⟨tp, ca, _, hv, tv, rs, r, W10.t, rfl, rfl, rfl, rfl, rfl, hrs, hr8, by omega, g10, hh10, ht, fun H11 sv bs R11 hbs hsv => ?_⟩
  have W11 := W10.rn R11
  have g11 := dp_same (goT R11) g10
  obtain ⟨sl, sxs, rfl, hs1, hs2⟩ := hsv
  refine ⟨_, rfl, sl, rfl, ⟨_, SqL.of (offS_some hs1).2⟩, for_list (K := K) (a := sl) (xs := sxs) (fun i σ H' => Same H11 H' ∧ ∃ o12, σ = stW tp fv L qi m none (.ref ga) o7 (some (.int (r : Nat))) (some hv) (some tv) (some (.ref sl)) o12 none) ⟨same_refl, _, rfl⟩ (fun i σ H' _ hh => SqL.of (hh.1 _ _ (offS_some hs1).2)) ?_ ?_⟩
  · rintro j y σ H12 hj ⟨s12, o12, rfl⟩
    obtain ⟨b, hb, hy⟩ := dps_at hs2 hj
    have hbad := hbs b (List.mem_of_getElem? hb)
    have W12 := W11.rn (Rn.of W11.t s12)
    exact ⟨_, fv, fd, qi, N, y, b, rfl, by decide, rfl, rfl, rfl, W12.on, hf, hq, dp_same s12 (dp_onS hy), (fun ds e => Nat.le_trans (hbad.2 ds e) (by decide)), (by rw [← hrl]; exact hbad.1), fun H13 s13 => ⟨s12.trans s13, _, rfl⟩⟩
  rintro σ H12 ⟨s12, o12, rfl⟩
  have R12 := Rn.of W11.t s12
  have W12 := W11.rn R12
  have g12 := dp_same (goT R12) g11
  refine ⟨_, rfl, L, _, rfl, .inl (SqL.of W12.l), _, rfl, by omega, by omega, for_range (lo := 0) (n := (deepsV fd).length) (fun i σ H' => Same H12 H' ∧ ∃ o5, σ = stW tp fv L qi m o5 (.ref ga) o7 (some (.int (r : Nat))) (some hv) (some tv) (some (.ref sl)) o12 none) ⟨same_refl, _, rfl⟩ ?_ ?_⟩
  · rintro i σ H13 hi ⟨s13, o5, rfl⟩
    have W13 := W12.rn (Rn.of W12.t s13)
    have g13 := dp_same (GoS.of (S := [tp]) s13) g12
    have hk : (lens fd)[i]? = some ((lens fd)[i]'(by omega)) := List.getElem?_eq_getElem (by omega)
    have e0 : V.int (0 + ((i : Nat) : Int)) = V.int (i : Nat) := by rw [Int.zero_add]
    refine ⟨fv, fd, L, i, _, _, rs, rfl, rfl, (by show some (some (V.int (0 + ((i : Nat) : Int)))) = _; rw [e0]), rfl, W13.on, hf, W13.l, hk, dp_onS g13, hrs, by omega, fun H14 s14 => ⟨s13.trans s14, _, rfl⟩⟩
  rintro σ H13 ⟨s13, o5, rfl⟩
  have R13 := Rn.of W12.t s13
  have W13 := W12.rn R13
  have g13 := dp_same (goT R13) g12
  refine ⟨tp, ca, fd, L, qi, W13.t, rfl, rfl, W13.l, W13.n, by omega, fun H14 wrv bs2 R14 hbs2 hwr => ?_⟩
  have W14 := W13.rn R14
  have g14 := dp_same (goT R14) g13
  obtain ⟨wa, wxs, rfl, hws, hwx, hwl⟩ := dp_tup hwr
  refine ⟨wa, rfl, ⟨_, same_sqt offS_same hws⟩, for_tup (K := K) (a := wa) (xs := wxs) (fun i σ H' => Rn K tp ca H14 H' ∧ ∃ o13, σ = stW tp fv L qi m o5 (.ref ga) o7 (some (.int (r : Nat))) (some hv) (some tv) (some (.ref sl)) o12 o13) ⟨Rn.refl W14.t, _, rfl⟩ (fun i σ H' _ hh => same_sqt offS_same (same_sqt (goT hh.1) hws)) ?_ ?_⟩
  · rintro j y σ H15 hj ⟨R15, o13, rfl⟩
    obtain ⟨b, hb, hy⟩ := dps_at hwx hj
    have hbad := hbs2 b (List.mem_of_getElem? hb)
    have W15 := W14.rn R15
    have g15 := dp_same (goT R15) g14
    have y15 := dp_same (goT R15) hy
    refine ⟨fv, y, _, fd, b, _, rfl, rfl, rfl, W15.on, hf, dp_onS y15, hbad, dp_onS g15, big, fun H16 s16 => ?_⟩
    have R16 := Rn.of W15.t s16
    have W16 := W15.rn R16
    exact ⟨tp, ca, y, _, b, _, W16.t, rfl, rfl, rfl, dp_same (goT R16) y15, dp_same (goT R16) g15, big, fun H17 R17 => ⟨R15.trans (R16.trans R17), _, rfl⟩⟩
  rintro σ H15 ⟨R15, o13, rfl⟩
  have W15 := W14.rn R15
  have Rfin := Rall.trans (R7.trans (R8.trans (R9.trans (R10.trans (R11.trans (R12.trans (R13.trans (R14.trans R15))))))))
  refine ⟨_, rfl, _, rfl, ?_⟩
  dsimp only [L2.tNil, L2.tCons, L2.tC]
  refine ask_ranks (qd := .int (-2)) (d := .none) (.inr rfl) W15.on hf (.int _) .non (fun ds e => nomatch e) (.inl ⟨rfl, fun v H16 s16 f => ?_⟩)
  exact fun u H17 s17 hu => ⟨_, _, _, rfl, dp_same s17 f.dp, hu, plain_refd, fun H18 s18 => q0 H18 (((Rfin.same s16).same s17).same s18)⟩
end
end K23
set_option Elab.async false
set_option linter.all false
set_option maxRecDepth 100000
set_option maxHeartbeats 8000000
namespace K23
open PySem PySem.Spec PyProof.Rows L2 Dt K23S
/-! ### events as data -/
def departD : PyData := .tuple [.str "depart"]
def pushD (n : Int) (q : Nat) (rs : List (List Int)) : PyData := .tuple [.str "push", .int n, .int (q : Nat), ranksD rs]
def IsEv (fd : PyData) (n : Int) (d : PyData) : Prop := d = departD ∨ ∃ q rs m, d = pushD n q rs ∧ (lens fd)[q]? = some m ∧ rs.length = m + 1 ∧ RanksI rs ∧ m ≤ 11
theorem str_ok (s : String) : PyData.strOk (Str.ofString s) = true := by
  rw [Str.ofString_eq_toList]
  unfold PyData.strOk
  simp only [List.all_toArray, List.all_map, List.all_eq_true, Function.comp, decide_eq_true_eq]
  intro c _
  have := c.valid
  have h : c.toNat = c.val.toNat := rfl
  rw [h]
  rcases this with h | h
  · have : c.val.toNat < 0xd800 := h
    omega
  · exact h.2
theorem shp_str {n : Nat} (s : String) : Shp n (.str (Str.ofString s)) := by
  unfold Shp
  rw [PyData.canLay0, PyData.depth]
  exact ⟨str_ok s, Nat.zero_le _⟩
theorem shp_non {n : Nat} : Shp n .none := by
  unfold Shp
  rw [PyData.canLay0, PyData.depth]
  exact ⟨rfl, Nat.zero_le _⟩
theorem shp_bl {n : Nat} {b : Bool} : Shp n (.bool b) := by
  unfold Shp
  rw [PyData.canLay0, PyData.depth]
  exact ⟨rfl, Nat.zero_le _⟩
theorem shp_ranks {n : Nat} {rs : List (List Int)} : Shp (n + 2) (ranksD rs) := shp_tup fun e he => by
  obtain ⟨r, _, rfl⟩ := List.mem_map.mp he
  exact shp_ints
/-- a part of an event that can be compared -/
def PartOk (e : PyData) : Prop := Shp 10 e ∧ ∀ es, e = .tuple es → es.length ≤ 1000
theorem part_int {i : Int} : PartOk (.int i) := ⟨shp_int, fun _ e => nomatch e⟩
theorem part_non : PartOk .none := ⟨shp_non, fun _ e => nomatch e⟩
theorem part_bl {b : Bool} : PartOk (.bool b) := ⟨shp_bl, fun _ e => nomatch e⟩
theorem part_str (s : String) : PartOk (.str (Str.ofString s)) := ⟨shp_str s, fun _ e => nomatch e⟩
theorem part_tup {ds : List PyData} (h : ∀ e ∈ ds, Shp 9 e) (hl : ds.length ≤ 1000) : PartOk (.tuple ds) := ⟨shp_tup h, fun es e => by
  injection e with e
  rw [← e]
  exact hl⟩
theorem part_lst {ds : List PyData} (h : ∀ e ∈ ds, Shp 9 e) : PartOk (.list ds) := ⟨shp_lst h, fun es e => nomatch e⟩
theorem part_ranks {rs : List (List Int)} (hl : rs.length ≤ 1000) : PartOk (ranksD rs) := part_tup (fun e he => by
  obtain ⟨r, _, rfl⟩ := List.mem_map.mp he
  exact shp_ints) (by rw [List.length_map]; exact hl)
theorem evok_tup {ds : List PyData} (h : ∀ e ∈ ds, PartOk e) : EvOk (.tuple ds) := fun es e x hx => by
  injection e with e
  rw [← e] at hx
  have := h x hx
  exact ⟨this.1.ok (by decide), fun ys z => Nat.le_trans (this.2 ys z) (by decide)⟩
theorem evok_no {d : PyData} (h : ∀ ds, d ≠ .tuple ds) : EvOk d := fun es e => absurd e (h es)
theorem isev_ok {fd d : PyData} {n : Int} (h : IsEv fd n d) : EvOk d := by
  rcases h with rfl | ⟨q, rs, m, rfl, _, hl, _, hm⟩
  · exact evok_tup fun e he => by
      obtain rfl := List.mem_singleton.mp he
      exact part_str _
  · refine evok_tup fun e he => ?_
    simp only [List.mem_cons, List.not_mem_nil, or_false] at he
    rcases he with rfl | rfl | rfl | rfl
    · exact part_str _
    · exact part_int
    · exact part_int
    · exact part_ranks (by omega)
theorem way_good {fd : PyData} {q m : Nat} {rs : List (List Int)} (h : (lens fd)[q]? = some m) (hl : rs.length = m + 1) (hr : RanksI rs) : wayOf (dtOf fd) (.int (q : Nat)) (ranksD rs) = true := by
  have hi := (List.getElem?_eq_some_iff.mp h).1
  unfold wayOf numOf
  show (if 0 ≤ ((q : Nat) : Int) then (match (lv (dtOf fd))[((q : Nat) : Int).toNat]? with | some p => fitOf (p.length + 1) (ranksD rs) | none => false) else false) = true
  rw [if_pos (by omega), Int.toNat_natCast]
  have hlv : q < (lv (dtOf fd)).length := by
    unfold lens at hi
    rw [List.length_map] at hi
    exact hi
  have e : (lv (dtOf fd))[q]? = some ((lv (dtOf fd))[q]'hlv) := List.getElem?_eq_getElem hlv
  rw [e]
  have e2 := lens_lv e
  rw [h] at e2
  injection e2 with e2
  show fitOf (List.length _ + 1) (ranksD rs) = true
  rw [← e2, fit_good hr, decide_eq_true hl]
theorem isev_good {fd d : PyData} {n : Int} (h : IsEv fd n d) (h0 : 0 ≤ n) (h1 : n < packB) : eventOf (dtOf fd) d = true := by
  rcases h with rfl | ⟨q, rs, m, rfl, hq, hl, hr, _⟩
  · show PyData.eqv (.str "depart") (.str "depart") = true
    decide +kernel
  · show (PyData.eqv (.str "push") (.str "push") && (belowB packB (some n) && wayOf (dtOf fd) (.int (q : Nat)) (ranksD rs))) = true
    rw [way_good hq hl hr, show PyData.eqv (.str "push") (.str "push") = true from by decide +kernel]
    show (true && ((decide (0 ≤ n) && decide (n < packB)) && true)) = true
    rw [decide_eq_true h0, decide_eq_true h1]
    rfl
theorem isev_no {fd d : PyData} {n : Int} (h : IsEv fd n d) : pushNo d = none ∨ pushNo d = some n := by
  rcases h with rfl | ⟨q, rs, m, rfl, _⟩
  · exact .inl rfl
  · refine .inr ?_
    show (if PyData.eqv (.str "push") (.str "push") = true then some n else none) = some n
    rw [if_pos (by decide +kernel)]
/-! ### _law_event -/
def spEvt (K : PySem.W.Frag) : Sp := fun vs H Q _ => ∃ (tp ca L : Addr) (fd : PyData) (n : Int), vs = [.ref tp, .ref L, .int n] ∧ Tape K H tp ca ∧ FormOK fd ∧ H L = some (.lst (deepsV fd)) ∧ L ≠ tp ∧ ∀ H' v d, Rn K tp ca H H' → IsEv fd n d → Dp K (offS [tp] H') v d → Q v H'
theorem px_ranks {K : PySem.W.Frag} {σ : L2.St} {H : Hp} {tp ca L : Addr} {i0 id iq ik im : Nat} {q n m : Nat} {xs : List V} {r : List V → Hp → VK → Prop} (hr : r = rTupQ K) (h0 : ∀ y, ((wipe σ [ik]).set ik (some y))[i0]? = some (some (.ref tp))) (hd : σ[id]? = some (some (.ref L))) (hq : σ[iq]? = some (some (.int (q : Nat)))) (hm : ∀ y, ((wipe σ [ik]).set ik (some y))[im]? = some (some (.int (m : Nat))))
    (hL : H L = some (.lst xs)) (ln : L ≠ tp) (hx : xs[q]? = some (.int (n : Nat))) (hn : n ≤ 100) (hw : ∀ y, wipe ((wipe σ [ik]).set ik (some y)) [ik] = wipe σ [ik]) :
    PX K tp ca (tCB r (tCons (tLc (iRng1 (tCons (tOp (rIxL K) (tVar id) (tVar iq)) tNil)) (gName ik) tYes (tCall (spMkRank K) [] E0 (tCons (tVar i0) (tCons (tVar im) tNil))) [ik]) tNil)) σ H (fun d => ∃ rs, d = ranksD rs ∧ rs.length = n ∧ RanksI rs) :=
  fun H1 R Q k => ranks_read hr R.b h0 hd hq hm (R.at hL ln) hx hn hw fun H2 v rs R2 h1 h2 hv => k v H2 _ R2 ⟨rs, rfl, h1, h2⟩ hv
def tPush (K : PySem.W.Frag) : TE := fun σ H Q => ∃ (tp ca L : Addr) (q m N : Nat) (n : Int) (xs : List V) (o5 : Option V), σ = [some (.ref tp), some (.ref L), some (.int n), some (.int (q : Nat)), some (.int (m : Nat)), o5] ∧ Tape K H tp ca ∧ H L = some (.lst xs) ∧ L ≠ tp ∧ xs[q]? = some (.int (N : Nat)) ∧ N ≤ 100 ∧
  ∀ H' v rs, Rn K tp ca H H' → rs.length = N → RanksI rs → Dp K (offS [tp] H') v (pushD n q rs) → Q v H'
theorem push_t {K : PySem.W.Frag} {σ : L2.St} {H : Hp} {Q : VK} {r : List V → Hp → VK → Prop} (hr : r = rTupQ K) (h : tPush K σ H Q) :
    tTup (tCons (tC (.str (Str.ofString "push"))) (tCons (tVar 2) (tCons (tVar 3) (tCons (tCB r (tCons (tLc (iRng1 (tCons (tOp (rIxL K) (tVar 1) (tVar 3)) tNil)) (gName 5) tYes (tCall (spMkRank K) [] E0 (tCons (tVar 0) (tCons (tVar 4) tNil))) [5]) tNil)) tNil)))) σ H Q := by
  obtain ⟨tp, ca, L, q, m, N, n, xs, o5, rfl, hT, hL, ln, hx, hN, k⟩ := h
  refine px_use hT (px_tup (pxs_cons (px_pv fun _ _ => pv_str) (pxs_cons (px_n (pn_v rfl)) (pxs_cons (px_n (pn_v rfl)) (pxs_cons (px_ranks (L := L) (q := q) (n := N) (m := m) (xs := xs) hr (fun _ => rfl) rfl rfl (fun _ => rfl) hL ln hx hN (fun _ => rfl)) pxs_nil)))) (by
    rintro ds ⟨d1, r1, rfl, h1, d2, r2, rfl, h2, d3, r3, rfl, h3, d4, r4, rfl, h4, rfl⟩
    show 4 ≤ 1000
    decide)) fun v H' d R hd hv => ?_
  obtain ⟨_, rfl, d1, _, rfl, rfl, d2, _, rfl, rfl, d3, _, rfl, rfl, d4, _, rfl, ⟨rs, rfl, h1, h2⟩, rfl⟩ := hd
  exact k H' v rs R h1 h2 hv
section
variable {P : Program} {w : World} {K : PySem.W.Frag} {mg : Str → Option Value} {base : Heap} {C U fI fG B S PA : Addr}
theorem ok_event1 (D : DefAt K mg "_law_event" s_law_event ["tape", "deeps", "number"]) (T : Txt K mg) (GDraw : CalX P w K mg base CX0 1 "_law_draw" ["tape", "many"] (spDraw K)) (GRank : CalX P w K mg base CX0 2 "_law_rank" ["tape", "manner"] (spMkRank K)) : CalX P w K mg base CX0 3 "_law_event" ["tape", "deeps", "number"] (spEvt K) := by
  refine D.ok sc_law_event (fun vs H Q E h => ?_) (fun f cdv A outer s H vs Q E hr h => ?_)
  · obtain ⟨tp, ca, L, fd, n, rfl, _⟩ := h
    rfl
  obtain ⟨tp, ca, L, fd, n, rfl, hT, hf, hL, ln, k⟩ := h
  refine ⟨_, (pss_cons (ps_if (pt_cmpR op_eq (pe_c0 GDraw hr (by decide) rfl (pa_cons (pv 0) (pa_cons pe_int pa_nil))) pe_int (nomark _)) 
      (pss_one (ps_ret (pe_tup (pa_cons pe_str pa_nil)))) pss_nil) 
    (pss_cons (ps_set (i := 3) sc_law_event.nd rfl (.inl rfl) (pe_c0 GDraw hr (by decide) rfl (pa_cons (pv 0) (pa_cons (pe_callB call_len_seq (by rfl) T.len PySem.boot_len (pa_cons (pv 1) pa_nil)) pa_nil)))) 
    (pss_cons (ps_set (i := 4) sc_law_event.nd rfl (.inr rfl) (pe_c0 GDraw hr (by decide) rfl (pa_cons (pv 0) (pa_cons pe_int pa_nil)))) 
    (pss_one (ps_ret (pe_conv (t' := tPush K) (pe_tup (pa_cons pe_str (pa_cons (pv 2) (pa_cons (pv 3) (pa_cons (pe_callTy call_tuple_of (by rfl) T.tuple PyProof.Rows.boot_tuple (pa_cons (pe_lc (own := [("k", 5)]) (g := gName 5) (tt := tYes) (by rfl) sc_law_event.nd (pi_range1 (by rfl) T.range (pa_cons (pe_ix ix_list (pv 1) (pv 3) (fun _ _ => rfl)) pa_nil)) (blkOk_by (own := [("k", 5)]) (N := N_law_event) (sc := defScope s_law_event) (by decide +kernel)) (fun _ _ _ _ _ => pg_name (i := 5) sc_law_event.nd rfl (Or.inl rfl)) (fun _ _ _ _ _ => pts_nil) (fun _ _ _ _ _ => by exact (pe_c0 GRank hr (by decide) rfl (pa_cons (pv 0) (pa_cons (pv 4) pa_nil))))) pa_nil)) pa_nil))))) (by
        exact fun σ H Q h => push_t rfl h))))))), ?_⟩

  refine ⟨_, rfl, tp, ca, 3, rfl, hT, by decide, by decide, fun H1 r0 hr0 R1 => ⟨rfl, _, rfl, ?_⟩⟩
  refine ite2 (fun _ => ?_) (fun _ => ?_)
  · exact ⟨(by show 1 ≤ sizeLine; decide), fun p hp => k _ _ _ (R1.same (same_new hp)) (.inl rfl) (.tup (sqt_offS upd_same (R1.b.inD.new hp)) (.cons (.str _) .nil))⟩
  have len1 := lens_pos _ _ (Nat.le_refl _) hf.good
  have len2 := Nat.le_trans (lens_len fd) hf.nd
  have dl := deepsV_len fd
  have hL1 := R1.at hL ln
  refine ⟨_, rfl, _, rfl, L, _, rfl, .inl (SqL.of hL1), tp, ca, (lens fd).length, by rw [dl]; rfl, R1.b, by omega, by omega, fun H2 q hq R2 => ?_⟩
  refine ⟨_, rfl, tp, ca, 4, rfl, R2.b, by decide, by decide, fun H3 m hm R3 => ?_⟩
  have hqe : (lens fd)[q]? = some ((lens fd)[q]'hq) := List.getElem?_eq_getElem hq
  have hNh := lens_ht hqe
  have hfh := hf.ht
  refine ⟨tp, ca, L, q, m, (lens fd)[q]'hq + 1, n, _, none, rfl, R3.b, R3.at (R2.at hL1 ln) ln, ln, deepsV_at hqe, by omega, fun H4 v rs R4 h1 h2 hv => ?_⟩
  exact k H4 v _ (R1.trans (R2.trans (R3.trans R4))) (.inr ⟨q, rs, _, rfl, hqe, h1, h2, by omega⟩) hv
end
end K23
set_option Elab.async false
set_option linter.all false
set_option maxRecDepth 100000
set_option maxHeartbeats 8000000
namespace K23
open PySem PySem.Spec PyProof.Rows L2 Dt K23S
/-! ### what is no event -/
def BadEv (fd d : PyData) : Prop := eventOf (dtOf fd) d = false ∧ EvOk d
theorem bad_no {fd d : PyData} (h : ∀ ds, d ≠ .tuple ds) : BadEv fd d := ⟨by
  cases d with
  | tuple ds => exact absurd rfl (h ds)
  | _ => rfl, evok_no h⟩
theorem bad_len {fd : PyData} {ds : List PyData} (h1 : ds.length ≠ 1) (h4 : ds.length ≠ 4) (h : ∀ e ∈ ds, PartOk e) : BadEv fd (.tuple ds) := ⟨event_len h1 h4, evok_tup h⟩
theorem bad_one {fd w : PyData} (h : PyData.eqv w (.str "depart") = false) (p : PartOk w) : BadEv fd (.tuple [w]) := ⟨h, evok_tup fun e he => by
  obtain rfl := List.mem_singleton.mp he
  exact p⟩
theorem bad_four {fd w n q r : PyData} (h : PyData.eqv w (.str "push") = false ∨ belowB packB (numOf n) = false ∨ wayOf (dtOf fd) q r = false) (p1 : PartOk w) (p2 : PartOk n) (p3 : PartOk q) (p4 : PartOk r) : BadEv fd (.tuple [w, n, q, r]) := by
  refine ⟨?_, evok_tup fun e he => ?_⟩
  · show (PyData.eqv w (.str "push") && (belowB packB (numOf n) && wayOf (dtOf fd) q r)) = false
    rcases h with h | h | h
    · rw [h, Bool.false_and]
    · rw [h, Bool.false_and, Bool.and_false]
    · rw [h, Bool.and_false, Bool.and_false]
  · simp only [List.mem_cons, List.not_mem_nil, or_false] at he
    rcases he with rfl | rfl | rfl | rfl
    · exact p1
    · exact p2
    · exact p3
    · exact p4
theorem way_bad {fd r : PyData} {q m : Nat} (h : (lens fd)[q]? = some m) (hb : fitOf (m + 1) r = false) : wayOf (dtOf fd) (.int (q : Nat)) r = false := by
  have hi := (List.getElem?_eq_some_iff.mp h).1
  unfold wayOf numOf
  show (if 0 ≤ ((q : Nat) : Int) then (match (lv (dtOf fd))[((q : Nat) : Int).toNat]? with | some p => fitOf (p.length + 1) r | none => false) else false) = false
  rw [if_pos (by omega), Int.toNat_natCast]
  have hlv : q < (lv (dtOf fd)).length := by
    unfold lens at hi
    rw [List.length_map] at hi
    exact hi
  have e : (lv (dtOf fd))[q]? = some ((lv (dtOf fd))[q]'hlv) := List.getElem?_eq_getElem hlv
  rw [e]
  have e2 := lens_lv e
  rw [h] at e2
  injection e2 with e2
  show fitOf (List.length _ + 1) r = false
  rw [← e2, hb]
theorem way_q {fd q r : PyData} (h : belowB ((lens fd).length : Nat) (numOf q) = false) : wayOf (dtOf fd) q r = false := wayOf_no (by rw [lf_lens]; exact h)
/-! ### one of a display -/
def tPick (K : PySem.W.Frag) : TE := fun σ H Q => ∃ (tp ca : Addr) (v : V) (ds : List PyData), Tape K H tp ca ∧ σ[0]? = some (some (.ref tp)) ∧ σ[3]? = some (some v) ∧ Dp K (offS [tp] H) v (.tuple ds) ∧ 0 < ds.length ∧ ds.length ≤ 1000 ∧
  ∀ H' v' d, Rn K tp ca H H' → d ∈ ds → Dp K (offS [tp] H') v' d → Q v' H'
theorem pick_t {K : PySem.W.Frag} {σ : L2.St} {H : Hp} {Q : VK} {r : List V → Hp → VK → Prop} (hr : r = rLenQ K) (h : tPick K σ H Q) : tOp (rIxT K) (tVar 3) (tCall (spDraw K) [] E0 (tCons (tVar 0) (tCons (tCB r (tCons (tVar 3) tNil)) tNil))) σ H Q := by
  subst hr
  obtain ⟨tp, ca, v, ds, hT, h0, h3, hv, n1, n2, k⟩ := h
  obtain ⟨a, xs, rfl, hs, hx, hl⟩ := dp_tup hv
  refine ⟨_, h3, _, h0, _, h3, a, xs, rfl, .inr (same_sqt offS_same hs), tp, ca, ds.length, by rw [hl]; rfl, hT, n1, by omega, fun H1 j hj R => ?_⟩
  have hx1 : xs[j]? = some (xs[j]'(by omega)) := List.getElem?_eq_getElem (by omega)
  obtain ⟨d, hd, hdv⟩ := dps_at hx hx1
  exact ⟨a, xs, j, _, rfl, rfl, same_sqt offS_same (same_sqt (goT R) hs), atI_nat hx1, k H1 _ d R (List.mem_of_getElem? hd) (dp_same (goT R) hdv)⟩
def tMenu1 (K : PySem.W.Frag) : TE := fun σ H Q => ∃ (tp ca : Addr) (fd : PyData), Tape K H tp ca ∧ ∀ H' v ds, Rn K tp ca H H' → ds.length = 9 → (∀ d ∈ ds, BadEv fd d) → Dp K (offS [tp] H') v (.tuple ds) → Q v H'
theorem menu1_t {K : PySem.W.Frag} {σ : L2.St} {H : Hp} {Q : VK} (h : tMenu1 K σ H Q) :
    tTup (tCons (tLst (tCons (tC (.str (Str.ofString "depart"))) tNil)) (tCons (tTup (tCons (tC (.str (Str.ofString "depart"))) (tCons (tC (.int 0)) tNil))) (tCons (tTup (tCons (tC (.str (Str.ofString "departs"))) tNil)) (tCons (tTup (tCons (tC (.str (Str.ofString "push"))) tNil)) (tCons (tTup tNil) (tCons (tC (.str (Str.ofString "depart"))) (tCons (tC .non) (tCons (tTup (tCons (tC .non) tNil)) (tCons (tTup (tCons (tC (.str (Str.ofString ""))) tNil)) tNil))))))))) σ H Q := by
  obtain ⟨tp, ca, fd, hT, k⟩ := h
  refine px_tup1 hT (pxs_c1 (px_c1 (px_pv fun H1 R => pv_lst R.b.inD (pvs_cons pv_str pvs_nil) (by show 1 ≤ 1000; decide)) (bad_no fun ds e => nomatch e))
    (pxs_c1 (px_c1 (px_pv fun H1 R => pv_tup R.b.inD (pvs_cons pv_str (pvs_cons pv_int pvs_nil)) (by show 2 ≤ 1000; decide)) (bad_len (by show 2 ≠ 1; decide) (by show 2 ≠ 4; decide) fun e he => ?_))
    (pxs_c1 (px_c1 (px_tupE1 (px_pv fun H1 R => pv_str)) (bad_one (by decide +kernel) (part_str _)))
    (pxs_c1 (px_c1 (px_tupE1 (px_pv fun H1 R => pv_str)) (bad_one (by decide +kernel) (part_str _)))
    (pxs_c1 (px_c1 (px_pv fun H1 R => pv_tup R.b.inD pvs_nil (by show 0 ≤ 1000; decide)) (bad_len (by show 0 ≠ 1; decide) (by show 0 ≠ 4; decide) fun e he => nomatch he))
    (pxs_c1 (px_c1 (px_pv fun H1 R => pv_str) (bad_no fun ds e => nomatch e))
    (pxs_c1 (px_c1 (px_pv fun H1 R => pv_non) (bad_no fun ds e => nomatch e))
    (pxs_c1 (px_c1 (px_tupE1 (px_pv fun H1 R => pv_non)) (bad_one (by decide +kernel) part_non))
    (pxs_c1 (px_c1 (px_tupE1 (px_pv fun H1 R => pv_str)) (bad_one (by decide +kernel) (part_str _))) pxs_n1))))))))) (by decide) fun v H' ds R h1 h2 h3 => k H' v ds R h1 h2 h3
  simp only [List.mem_cons, List.not_mem_nil, or_false] at he
  rcases he with rfl | rfl
  · exact part_str _
  · exact part_int
/-- four parts -/
theorem px_tup4 {K : PySem.W.Frag} {tp ca : Addr} {σ : L2.St} {H : Hp} {ta tb tc td : TE} {A B C D G : PyData → Prop} (a : PX K tp ca ta σ H A) (b : PX K tp ca tb σ H B) (c : PX K tp ca tc σ H C) (d : PX K tp ca td σ H D) (g : ∀ x y z w, A x → B y → C z → D w → G (.tuple [x, y, z, w])) :
    PX K tp ca (tTup (tCons ta (tCons tb (tCons tc (tCons td tNil))))) σ H G :=
  px_mono (px_tup (pxs_cons a (pxs_cons b (pxs_cons c (pxs_cons d pxs_nil)))) (by
    rintro ds ⟨d1, r1, rfl, h1, d2, r2, rfl, h2, d3, r3, rfl, h3, d4, r4, rfl, h4, rfl⟩
    show 4 ≤ 1000
    decide)) (by
    rintro d ⟨ds, rfl, d1, r1, rfl, h1, d2, r2, rfl, h2, d3, r3, rfl, h3, d4, r4, rfl, h4, rfl⟩
    exact g _ _ _ _ h1 h2 h3 h4)
def tMenu2 (K : PySem.W.Frag) : TE := fun σ H Q => ∃ (tp ca L : Addr) (fd : PyData) (ev rv hv tv : V) (n : Int) (q m r : Nat) (rs : List (List Int)), Tape K H tp ca ∧ σ[0]? = some (some (.ref tp)) ∧ σ[1]? = some (some (.ref L)) ∧ σ[2]? = some (some ev) ∧ σ[4]? = some (some (.str (Str.ofString "push"))) ∧ σ[5]? = some (some (.int n)) ∧ σ[6]? = some (some (.int (q : Nat))) ∧ σ[7]? = some (some rv) ∧ σ[9]? = some (some hv) ∧ σ[10]? = some (some tv) ∧
  H L = some (.lst (deepsV fd)) ∧ L ≠ tp ∧ (lens fd)[q]? = some m ∧ rs.length = m + 1 ∧ RanksI rs ∧ m ≤ 11 ∧ r < rs.length ∧ n.natAbs.log2 < 1920 ∧
  Dp K (offS [tp] H) ev (pushD n q rs) ∧ Dp K (offS [tp] H) rv (ranksD rs) ∧ Dp K (offS [tp] H) hv (ranksD (rs.take r)) ∧ Dp K (offS [tp] H) tv (ranksD (rs.drop (r + 1))) ∧
  ∀ H' v ds, Rn K tp ca H H' → ds.length = 19 → (∀ d ∈ ds, BadEv fd d) → Dp K (offS [tp] H') v (.tuple ds) → Q v H'
theorem menu2_t {K : PySem.W.Frag} {σ : L2.St} {H : Hp} {Q : VK} {rl1 rl2 rs1 rn : List V → Hp → VK → Prop} (e1 : rl1 = fun xs H Q => ∃ p ys, xs = [.ref p] ∧ (SqL K H p ys ∨ SqT K H p ys) ∧ ∀ l, H l = none → Q (.ref l) (upd H l (.lst ys))) (e2 : rl2 = rl1) (e3 : rs1 = fun xs H Q => ∃ i, xs = [.int i] ∧ i.natAbs.log2 < 1920 ∧ Q (.str (toString i)) H) (e4 : rn = rLenQ K) (h : tMenu2 K σ H Q) :
    tTup (tCons (tCB rl1 (tCons (tVar 2) tNil)) (tCons (tTup (tCons (tC (.str (Str.ofString "pushes"))) (tCons (tVar 5) (tCons (tVar 6) (tCons (tVar 7) tNil))))) (tCons (tTup (tCons (tVar 4) (tCons (tVar 5) (tCons (tVar 6) tNil)))) (tCons (tOp (rCatA K) (tVar 2) (tTup (tCons (tC (.int 0)) tNil)))
      (tCons (tTup (tCons (tVar 4) (tCons (tUn (rU fun i => .int (-i)) (tC (.int 1))) (tCons (tVar 6) (tCons (tVar 7) tNil))))) (tCons (tTup (tCons (tVar 4) (tCons (tC (.int packB)) (tCons (tVar 6) (tCons (tVar 7) tNil))))) (tCons (tTup (tCons (tVar 4) (tCons (tC (.bl true)) (tCons (tVar 6) (tCons (tVar 7) tNil)))))
      (tCons (tTup (tCons (tVar 4) (tCons (tCB rs1 (tCons (tVar 5) tNil)) (tCons (tVar 6) (tCons (tVar 7) tNil))))) (tCons (tTup (tCons (tVar 4) (tCons (tVar 5) (tCons (tUn (rU fun i => .int (-i)) (tC (.int 1))) (tCons (tVar 7) tNil))))) (tCons (tTup (tCons (tVar 4) (tCons (tVar 5) (tCons (tCB rn (tCons (tVar 1) tNil)) (tCons (tVar 7) tNil)))))
      (tCons (tTup (tCons (tVar 4) (tCons (tVar 5) (tCons (tC (.bl false)) (tCons (tVar 7) tNil))))) (tCons (tTup (tCons (tVar 4) (tCons (tVar 5) (tCons (tC .non) (tCons (tVar 7) tNil))))) (tCons (tTup (tCons (tVar 4) (tCons (tVar 5) (tCons (tVar 6) (tCons (tCB rl2 (tCons (tVar 7) tNil)) tNil)))))
      (tCons (tTup (tCons (tVar 4) (tCons (tVar 5) (tCons (tVar 6) (tCons (tOp (rCatA K) (tVar 9) (tVar 10)) tNil))))) (tCons (tTup (tCons (tVar 4) (tCons (tVar 5) (tCons (tVar 6) (tCons (tOp (rCatA K) (tVar 7) (tTup (tCons (tTup tNil) tNil))) tNil)))))
      (tCons (tTup (tCons (tVar 4) (tCons (tVar 5) (tCons (tVar 6) (tCons (tOp (rCatA K) (tOp (rCatA K) (tVar 9) (tTup (tCons (tCall (spBadRank K) [] E0 (tCons (tVar 0) tNil)) tNil))) (tVar 10)) tNil))))) (tCons (tTup (tCons (tVar 4) (tCons (tC .non) (tCons (tVar 6) (tCons (tVar 7) tNil)))))
      (tCons (tTup (tCons (tC .non) (tCons (tVar 5) (tCons (tVar 6) (tCons (tVar 7) tNil))))) (tCons (tC (.int 5)) tNil))))))))))))))))))) σ H Q := by
  obtain ⟨tp, ca, L, fd, ev, rv, hv, tv, n, q, m, r, rs, hT, h0, h1, h2, h4, h5, h6, h7, h9, h10, hL, ln, hq, hrl, hrs, hm, hr, hlog, dev, drv, dhv, dtv, k⟩ := h
  have l1 : ((rs.take r).map intsD).length = r := by
    rw [List.length_map, List.length_take]
    omega
  have l2 : ((rs.drop (r + 1)).map intsD).length = rs.length - (r + 1) := by
    rw [List.length_map, List.length_drop]
  have l3 : (rs.map intsD).length = rs.length := List.length_map ..
  have x2 : PX K tp ca (tVar 2) σ H (· = pushD n q rs) := px_var h2 dev
  have x4 : PX K tp ca (tVar 4) σ H (· = .str (Str.ofString "push")) := px_var h4 (.str _)
  have x5 : PX K tp ca (tVar 5) σ H (· = .int n) := px_n (pn_v h5)
  have x6 : PX K tp ca (tVar 6) σ H (· = .int (q : Nat)) := px_n (pn_v h6)
  have x7 : PX K tp ca (tVar 7) σ H (· = ranksD rs) := px_var h7 drv
  have x9 : PX K tp ca (tVar 9) σ H (· = .tuple ((rs.take r).map intsD)) := px_var h9 dhv
  have x10 : PX K tp ca (tVar 10) σ H (· = .tuple ((rs.drop (r + 1)).map intsD)) := px_var h10 dtv
  have w4 := part_str "push"
  have o6 : PartOk (.int (q : Nat)) := part_int
  have o5 : PartOk (.int n) := part_int
  have o7 : PartOk (ranksD rs) := part_ranks (by omega)
  have four : ∀ {ta tb tc td : TE} {A B C D : PyData → Prop}, PX K tp ca ta σ H A → PX K tp ca tb σ H B → PX K tp ca tc σ H C → PX K tp ca td σ H D → (∀ x y z w, A x → B y → C z → D w → BadEv fd (.tuple [x, y, z, w])) → PX K tp ca (tTup (tCons ta (tCons tb (tCons tc (tCons td tNil))))) σ H (BadEv fd) := fun a b c d g => px_tup4 a b c d g
  have sh1 : ∀ e ∈ rs.map intsD, Shp 9 e := fun e he => by
    obtain ⟨s, _, rfl⟩ := List.mem_map.mp he
    exact shp_ints
  have shT : ∀ e ∈ (rs.take r).map intsD, Shp 9 e := fun e he => by
    obtain ⟨s, _, rfl⟩ := List.mem_map.mp he
    exact shp_ints
  have shD : ∀ e ∈ (rs.drop (r + 1)).map intsD, Shp 9 e := fun e he => by
    obtain ⟨s, _, rfl⟩ := List.mem_map.mp he
    exact shp_ints
  have p1 : PX K tp ca (tCB rl1 (tCons (tVar 2) tNil)) σ H (BadEv fd) := px_c1 (px_list e1 (show PX K tp ca (tVar 2) σ H (· = .tuple [.str (Str.ofString "push"), .int n, .int (q : Nat), ranksD rs]) from x2)) (bad_no fun ds e => nomatch e)
  have p2 : PX K tp ca (tTup (tCons (tC (.str (Str.ofString "pushes"))) (tCons (tVar 5) (tCons (tVar 6) (tCons (tVar 7) tNil))))) σ H (BadEv fd) := four (px_pv fun _ _ => pv_str) x5 x6 x7 (by
    rintro x y z w rfl rfl rfl rfl
    exact bad_four (.inl (by decide +kernel)) (part_str _) o5 o6 o7)
  have p3 : PX K tp ca (tTup (tCons (tVar 4) (tCons (tVar 5) (tCons (tVar 6) tNil)))) σ H (BadEv fd) := px_mono (px_tup (pxs_cons x4 (pxs_cons x5 (pxs_cons x6 pxs_nil))) (by
    rintro ds ⟨d1, r1, rfl, h1, d2, r2, rfl, h2, d3, r3, rfl, h3, rfl⟩
    show 3 ≤ 1000
    decide)) (by
    rintro d ⟨ds, rfl, d1, r1, rfl, rfl, d2, r2, rfl, rfl, d3, r3, rfl, rfl, rfl⟩
    refine bad_len (by show 3 ≠ 1; decide) (by show 3 ≠ 4; decide) fun e he => ?_
    simp only [List.mem_cons, List.not_mem_nil, or_false] at he
    rcases he with rfl | rfl | rfl
    · exact w4
    · exact o5
    · exact o6)
  have p4 : PX K tp ca (tOp (rCatA K) (tVar 2) (tTup (tCons (tC (.int 0)) tNil))) σ H (BadEv fd) := px_c1 (px_catE (show PX K tp ca (tVar 2) σ H (· = .tuple [.str (Str.ofString "push"), .int n, .int (q : Nat), ranksD rs]) from x2) (px_tupE1 (px_n (pn_c (k := 0)))) (by show 4 ≤ 5000; decide) (by show 1 ≤ 5000; decide)) (bad_len (by show 5 ≠ 1; decide) (by show 5 ≠ 4; decide) fun e he => by
    simp only [List.cons_append, List.nil_append, List.mem_cons, List.not_mem_nil, or_false] at he
    rcases he with rfl | rfl | rfl | rfl | rfl
    · exact w4
    · exact o5
    · exact o6
    · exact o7
    · exact part_int)
  have p5 : PX K tp ca (tTup (tCons (tVar 4) (tCons (tUn (rU fun i => .int (-i)) (tC (.int 1))) (tCons (tVar 6) (tCons (tVar 7) tNil))))) σ H (BadEv fd) := four x4 (px_n (pn_neg (pn_c (k := 1)))) x6 x7 (by
    rintro x y z w rfl rfl rfl rfl
    exact bad_four (.inr (.inl (by decide))) w4 part_int o6 o7)
  have p6 : PX K tp ca (tTup (tCons (tVar 4) (tCons (tC (.int packB)) (tCons (tVar 6) (tCons (tVar 7) tNil))))) σ H (BadEv fd) := four x4 (px_n pn_c) x6 x7 (by
    rintro x y z w rfl rfl rfl rfl
    exact bad_four (.inr (.inl (by decide +kernel))) w4 part_int o6 o7)
  have p7 : PX K tp ca (tTup (tCons (tVar 4) (tCons (tC (.bl true)) (tCons (tVar 6) (tCons (tVar 7) tNil))))) σ H (BadEv fd) := four x4 (px_pv fun _ _ => pv_bl) x6 x7 (by
    rintro x y z w rfl rfl rfl rfl
    exact bad_four (.inr (.inl rfl)) w4 part_bl o6 o7)
  have xs5 : PX K tp ca (tCB rs1 (tCons (tVar 5) tNil)) σ H (fun d => ∃ s : String, d = .str (Str.ofString s)) := fun H1 R Q k2 => by
    subst e3
    exact ⟨_, h5, _, rfl, hlog, k2 _ H1 _ (Rn.refl R.b) ⟨_, rfl⟩ (.str _)⟩
  have p8 : PX K tp ca (tTup (tCons (tVar 4) (tCons (tCB rs1 (tCons (tVar 5) tNil)) (tCons (tVar 6) (tCons (tVar 7) tNil))))) σ H (BadEv fd) := four x4 xs5 x6 x7 (by
    rintro x y z w rfl ⟨s, rfl⟩ rfl rfl
    exact bad_four (.inr (.inl rfl)) w4 (part_str _) o6 o7)
  have p9 : PX K tp ca (tTup (tCons (tVar 4) (tCons (tVar 5) (tCons (tUn (rU fun i => .int (-i)) (tC (.int 1))) (tCons (tVar 7) tNil))))) σ H (BadEv fd) := four x4 x5 (px_n (pn_neg (pn_c (k := 1)))) x7 (by
    rintro x y z w rfl rfl rfl rfl
    exact bad_four (.inr (.inr (way_q rfl))) w4 o5 part_int o7)
  have xl1 : PX K tp ca (tCB rn (tCons (tVar 1) tNil)) σ H (· = .int ((lens fd).length : Nat)) := fun H1 R Q k2 => by
    subst e4
    have := k2 (.int ((lens fd).length : Nat)) H1 _ (Rn.refl R.b) rfl (.int _)
    refine ⟨_, h1, L, _, rfl, .inl (SqL.of (R.at hL ln)), ?_⟩
    rw [deepsV_len]
    exact this
  have p10 : PX K tp ca (tTup (tCons (tVar 4) (tCons (tVar 5) (tCons (tCB rn (tCons (tVar 1) tNil)) (tCons (tVar 7) tNil))))) σ H (BadEv fd) := four x4 x5 xl1 x7 (by
    rintro x y z w rfl rfl rfl rfl
    refine bad_four (.inr (.inr (way_q ?_))) w4 o5 part_int o7
    show (decide (0 ≤ (((lens fd).length : Nat) : Int)) && decide ((((lens fd).length : Nat) : Int) < ((lens fd).length : Nat))) = false
    rw [decide_eq_false (show ¬ (((lens fd).length : Nat) : Int) < ((lens fd).length : Nat) by omega), Bool.and_false])
  have p11 : PX K tp ca (tTup (tCons (tVar 4) (tCons (tVar 5) (tCons (tC (.bl false)) (tCons (tVar 7) tNil))))) σ H (BadEv fd) := four x4 x5 (px_pv fun _ _ => pv_bl) x7 (by
    rintro x y z w rfl rfl rfl rfl
    exact bad_four (.inr (.inr (way_q rfl))) w4 o5 part_bl o7)
  have p12 : PX K tp ca (tTup (tCons (tVar 4) (tCons (tVar 5) (tCons (tC .non) (tCons (tVar 7) tNil))))) σ H (BadEv fd) := four x4 x5 (px_pv fun _ _ => pv_non) x7 (by
    rintro x y z w rfl rfl rfl rfl
    exact bad_four (.inr (.inr (way_q rfl))) w4 o5 part_non o7)
  have p13 : PX K tp ca (tTup (tCons (tVar 4) (tCons (tVar 5) (tCons (tVar 6) (tCons (tCB rl2 (tCons (tVar 7) tNil)) tNil))))) σ H (BadEv fd) := four x4 x5 x6 (px_list (e2.trans e1) x7) (by
    rintro x y z w rfl rfl rfl rfl
    exact bad_four (.inr (.inr (way_bad hq rfl))) w4 o5 o6 (part_lst sh1))
  have p14 : PX K tp ca (tTup (tCons (tVar 4) (tCons (tVar 5) (tCons (tVar 6) (tCons (tOp (rCatA K) (tVar 9) (tVar 10)) tNil))))) σ H (BadEv fd) := four x4 x5 x6 (px_catE x9 x10 (by omega) (by omega)) (by
    rintro x y z w rfl rfl rfl rfl
    refine bad_four (.inr (.inr (way_bad hq (fit_len (by rw [List.length_append, l1, l2]; omega))))) w4 o5 o6 (part_tup (fun e he => ?_) (by rw [List.length_append, l1, l2]; omega))
    rcases List.mem_append.mp he with he | he
    · exact shT e he
    · exact shD e he)
  have p15 : PX K tp ca (tTup (tCons (tVar 4) (tCons (tVar 5) (tCons (tVar 6) (tCons (tOp (rCatA K) (tVar 7) (tTup (tCons (tTup tNil) tNil))) tNil))))) σ H (BadEv fd) := four x4 x5 x6 (px_catE x7 (px_tupE1 (px_pv fun H1 R => pv_tup R.b.inD pvs_nil (by show 0 ≤ 1000; decide))) (by omega) (by show 1 ≤ 5000; decide)) (by
    rintro x y z w rfl rfl rfl rfl
    refine bad_four (.inr (.inr (way_bad hq (fit_len (by rw [List.length_append, l3]; show rs.length + 1 ≠ _; omega))))) w4 o5 o6 (part_tup (fun e he => ?_) (by rw [List.length_append, l3]; show rs.length + 1 ≤ _; omega))
    rcases List.mem_append.mp he with he | he
    · exact sh1 e he
    · obtain rfl := List.mem_singleton.mp he
      exact shp_tup fun e he => nomatch he)
  have mid : PX K tp ca (tOp (rCatA K) (tOp (rCatA K) (tVar 9) (tTup (tCons (tCall (spBadRank K) [] E0 (tCons (tVar 0) tNil)) tNil))) (tVar 10)) σ H (fun d => ∃ e, BadR e ∧ d = .tuple ((rs.take r).map intsD ++ [e] ++ (rs.drop (r + 1)).map intsD)) := by
    have z := px_cat (px_cat x9 (px_tup (pxs_cons (px_bad (ca := ca) (K := K) (H := H) h0) pxs_nil) (by
      rintro ds ⟨e, l, rfl, he, rfl⟩
      show 1 ≤ 1000
      decide)) (fun d hd => ⟨_, hd, by omega⟩) (by
      rintro d ⟨ds, rfl, e, l, rfl, he, rfl⟩
      exact ⟨_, rfl, by show 1 ≤ 5000; decide⟩)) x10 (by
      rintro d ⟨a, b, rfl, e1, ds, e2, e, l, rfl, he, rfl⟩
      refine ⟨_, rfl, ?_⟩
      injection e1 with e1
      injection e2 with e2
      rw [e1, e2, List.length_append, l1]
      show r + 1 ≤ 5000
      omega) (fun d hd => ⟨_, hd, by omega⟩)
    refine px_mono z fun d hd => ?_
    obtain ⟨a, b, rfl, ⟨a1, b1, e0, e1, ds, e2, e, l, rfl, he, rfl⟩, e3⟩ := hd
    injection e0 with e0
    injection e1 with e1
    injection e2 with e2
    injection e3 with e3
    subst e0
    subst e1
    subst e2
    subst e3
    exact ⟨e, he, rfl⟩
  have p16 : PX K tp ca (tTup (tCons (tVar 4) (tCons (tVar 5) (tCons (tVar 6) (tCons (tOp (rCatA K) (tOp (rCatA K) (tVar 9) (tTup (tCons (tCall (spBadRank K) [] E0 (tCons (tVar 0) tNil)) tNil))) (tVar 10)) tNil))))) σ H (BadEv fd) := four x4 x5 x6 mid (by
    rintro x y z w rfl rfl rfl ⟨e, he, rfl⟩
    refine bad_four (.inr (.inr (way_bad hq (fit_bad (d := e) (by simp) he.2.1)))) w4 o5 o6 (part_tup (fun x hx => ?_) (by rw [List.length_append, List.length_append, l1, l2]; show r + 1 + _ ≤ 1000; omega))
    rcases List.mem_append.mp hx with hx | hx
    · rcases List.mem_append.mp hx with hx | hx
      · exact shT x hx
      · obtain rfl := List.mem_singleton.mp hx
        exact ⟨he.2.2.2.1, Nat.le_trans he.2.2.2.2 (by decide)⟩
    · exact shD x hx)
  have p17 : PX K tp ca (tTup (tCons (tVar 4) (tCons (tC .non) (tCons (tVar 6) (tCons (tVar 7) tNil))))) σ H (BadEv fd) := four x4 (px_pv fun _ _ => pv_non) x6 x7 (by
    rintro x y z w rfl rfl rfl rfl
    exact bad_four (.inr (.inl rfl)) w4 part_non o6 o7)
  have p18 : PX K tp ca (tTup (tCons (tC .non) (tCons (tVar 5) (tCons (tVar 6) (tCons (tVar 7) tNil))))) σ H (BadEv fd) := four (px_pv fun _ _ => pv_non) x5 x6 x7 (by
    rintro x y z w rfl rfl rfl rfl
    exact bad_four (.inl (by simp [PyData.eqv])) part_non o5 o6 o7)
  have p19 : PX K tp ca (tC (.int 5)) σ H (BadEv fd) := px_c1 (px_n pn_c) (bad_no fun ds e => nomatch e)
  exact px_tup1 hT (pxs_c1 p1 (pxs_c1 p2 (pxs_c1 p3 (pxs_c1 p4 (pxs_c1 p5 (pxs_c1 p6 (pxs_c1 p7 (pxs_c1 p8 (pxs_c1 p9 (pxs_c1 p10 (pxs_c1 p11 (pxs_c1 p12 (pxs_c1 p13 (pxs_c1 p14 (pxs_c1 p15 (pxs_c1 p16 (pxs_c1 p17 (pxs_c1 p18 (pxs_c1 p19 pxs_n1))))))))))))))))))) (by decide) fun v H' ds R h1 h2 h3 => k H' v ds R h1 h2 h3
end K23
set_option Elab.async false
set_option linter.all false
set_option maxRecDepth 100000
set_option maxHeartbeats 8000000
namespace K23
open PySem PySem.Spec PyProof.Rows L2 Dt K23S
/-! ### _law_bad_event -/
def spBadEvt (K : PySem.W.Frag) : Sp := fun vs H Q _ => ∃ (tp ca L : Addr) (fd : PyData) (n : Int) (ev : V) (ed : PyData), vs = [.ref tp, .ref L, ev] ∧ Tape K H tp ca ∧ FormOK fd ∧ H L = some (.lst (deepsV fd)) ∧ L ≠ tp ∧ Dp K (offS [tp] H) ev ed ∧ IsEv fd n ed ∧ n.natAbs.log2 < 1920 ∧ ∀ H' v d, Rn K tp ca H H' → BadEv fd d → Dp K (offS [tp] H') v d → Q v H'
section
variable {P : Program} {w : World} {K : PySem.W.Frag} {mg : Str → Option Value} {base : Heap} {C U fI fG B S PA : Addr}
theorem ok_bad_event (D : DefAt K mg "_law_bad_event" s_law_bad_event ["tape", "deeps", "event"]) (T : Txt K mg) (GDraw : CalX P w K mg base CX0 1 "_law_draw" ["tape", "many"] (spDraw K)) (GBadRank : CalX P w K mg base CX0 2 "_law_bad_rank" ["tape"] (spBadRank K)) : CalX P w K mg base CX0 3 "_law_bad_event" ["tape", "deeps", "event"] (spBadEvt K) := by
  refine D.ok sc_law_bad_event (fun vs H Q E h => ?_) (fun f cdv A outer s H vs Q E hr h => ?_)
  · obtain ⟨tp, ca, L, fd, n, ev, ed, rfl, _⟩ := h
    rfl
  obtain ⟨tp, ca, L, fd, n, ev, ed, rfl, hT, hf, hL, ln, hev, hie, hlog, k⟩ := h
  refine ⟨_, (pss_cons (ps_if (pt_cmpR op_eq (pe_callB call_len_seq (by rfl) T.len PySem.boot_len (pa_cons (pv 2) pa_nil)) pe_int (nomark _)) 
      (pss_cons (ps_set (i := 3) sc_law_bad_event.nd rfl (.inl rfl) (pe_conv (t' := tMenu1 K) (pe_tup (pa_cons (pe_lst (pa_cons pe_str pa_nil)) (pa_cons (pe_tup (pa_cons pe_str (pa_cons pe_int pa_nil))) (pa_cons (pe_tup (pa_cons pe_str pa_nil)) (pa_cons (pe_tup (pa_cons pe_str pa_nil)) (pa_cons (pe_tup pa_nil) (pa_cons pe_str (pa_cons pe_non (pa_cons (pe_tup (pa_cons pe_non pa_nil)) (pa_cons (pe_tup (pa_cons pe_str pa_nil)) pa_nil)))))))))) (by
        exact fun σ H Q h => menu1_t h))) 
      (pss_one (ps_ret (pe_conv (t' := tPick K) (pe_ix ix_tup (pv 3) (pe_c0 GDraw hr (by decide) rfl (pa_cons (pv 0) (pa_cons (pe_callB call_len_seq (by rfl) T.len PySem.boot_len (pa_cons (pv 3) pa_nil)) pa_nil))) (fun _ _ => rfl)) (by
        exact fun σ H Q h => pick_t rfl h))))) pss_nil) 
    (pss_cons (ps_asg (pv 2) (pg_tup (by rfl) (pgs_cons (pg_name (i := 4) sc_law_bad_event.nd rfl (Or.inl rfl)) (pgs_cons (pg_name (i := 5) sc_law_bad_event.nd rfl (Or.inl rfl)) (pgs_cons (pg_name (i := 6) sc_law_bad_event.nd rfl (Or.inl rfl)) (pgs_cons (pg_name (i := 7) sc_law_bad_event.nd rfl (Or.inl rfl)) pgs_nil)))))) 
    (pss_cons (ps_set (i := 8) sc_law_bad_event.nd rfl (.inl rfl) (pe_c0 GDraw hr (by decide) rfl (pa_cons (pv 0) (pa_cons (pe_callB call_len_seq (by rfl) T.len PySem.boot_len (pa_cons (pv 7) pa_nil)) pa_nil)))) 
    (pss_cons (ps_set (i := 9) sc_law_bad_event.nd rfl (.inl rfl) (pe_conv (t' := tHead K 7 8) (pe_slice sl_tupA (pv 7) po_none (po_some (pv 8))) (by
        rintro σ H Q ⟨tp, rs, r, v, h6, h8, hS, hv, k⟩
        refine pv_use (pv_take hS (pv_var h6 (show Dp K (offS [tp] H) v (.tuple (rs.map intsD)) from hv)) (pn_v h8)) fun v' H' s hv' => k H' v' s ?_
        rw [← List.map_take] at hv'
        exact hv'))) 
    (pss_cons (ps_set (i := 10) sc_law_bad_event.nd rfl (.inl rfl) (pe_conv (t' := tTail K 7 8) (pe_slice sl_tupA (pv 7) (po_some (pe_op op_add (pv 8) pe_int)) po_none) (by
        rintro σ H Q ⟨tp, rs, r, v, h6, h8, hS, hv, k⟩
        have n1 : PN (tOp (rI0 fun i j => .int (i + j)) (tVar 8) (tC (.int 1))) σ ((r + 1 : Nat) : Int) := pn_add (pn_v h8) pn_c
        refine pv_use (pv_drop hS (pv_var h6 (show Dp K (offS [tp] H) v (.tuple (rs.map intsD)) from hv)) n1) fun v' H' s hv' => k H' v' s ?_
        rw [← List.map_drop] at hv'
        exact hv'))) 
    (pss_cons (ps_set (i := 3) sc_law_bad_event.nd rfl (.inl rfl) (pe_conv (t' := tMenu2 K) (pe_tup (pa_cons (pe_callTy call_list_of (by rfl) T.list (by decide +kernel) (pa_cons (pv 2) pa_nil)) (pa_cons (pe_tup (pa_cons pe_str (pa_cons (pv 5) (pa_cons (pv 6) (pa_cons (pv 7) pa_nil))))) (pa_cons (pe_tup (pa_cons (pv 4) (pa_cons (pv 5) (pa_cons (pv 6) pa_nil)))) (pa_cons (pe_op op_catA (pv 2) (pe_tup (pa_cons pe_int pa_nil))) (pa_cons (pe_tup (pa_cons (pv 4) (pa_cons (pe_un un_neg pe_int) (pa_cons (pv 6) (pa_cons (pv 7) pa_nil))))) (pa_cons (pe_tup (pa_cons (pv 4) (pa_cons (pe_conv (t' := tC (.int packB)) (pe_op op_shl pe_int pe_int) (shl_of (by decide) (by decide +kernel))) (pa_cons (pv 6) (pa_cons (pv 7) pa_nil))))) (pa_cons (pe_tup (pa_cons (pv 4) (pa_cons pe_bl (pa_cons (pv 6) (pa_cons (pv 7) pa_nil))))) (pa_cons (pe_tup (pa_cons (pv 4) (pa_cons (pe_callTy call_str_int (by rfl) T.str (by decide +kernel) (pa_cons (pv 5) pa_nil)) (pa_cons (pv 6) (pa_cons (pv 7) pa_nil))))) (pa_cons (pe_tup (pa_cons (pv 4) (pa_cons (pv 5) (pa_cons (pe_un un_neg pe_int) (pa_cons (pv 7) pa_nil))))) (pa_cons (pe_tup (pa_cons (pv 4) (pa_cons (pv 5) (pa_cons (pe_callB call_len_seq (by rfl) T.len PySem.boot_len (pa_cons (pv 1) pa_nil)) (pa_cons (pv 7) pa_nil))))) (pa_cons (pe_tup (pa_cons (pv 4) (pa_cons (pv 5) (pa_cons pe_bl (pa_cons (pv 7) pa_nil))))) (pa_cons (pe_tup (pa_cons (pv 4) (pa_cons (pv 5) (pa_cons pe_non (pa_cons (pv 7) pa_nil))))) (pa_cons (pe_tup (pa_cons (pv 4) (pa_cons (pv 5) (pa_cons (pv 6) (pa_cons (pe_callTy call_list_of (by rfl) T.list (by decide +kernel) (pa_cons (pv 7) pa_nil)) pa_nil))))) (pa_cons (pe_tup (pa_cons (pv 4) (pa_cons (pv 5) (pa_cons (pv 6) (pa_cons (pe_op op_catA (pv 9) (pv 10)) pa_nil))))) (pa_cons (pe_tup (pa_cons (pv 4) (pa_cons (pv 5) (pa_cons (pv 6) (pa_cons (pe_op op_catA (pv 7) (pe_tup (pa_cons (pe_tup pa_nil) pa_nil))) pa_nil))))) (pa_cons (pe_tup (pa_cons (pv 4) (pa_cons (pv 5) (pa_cons (pv 6) (pa_cons (pe_op op_catA (pe_op op_catA (pv 9) (pe_tup (pa_cons (pe_c0 GBadRank hr (by decide) rfl (pa_cons (pv 0) pa_nil)) pa_nil))) (pv 10)) pa_nil))))) (pa_cons (pe_tup (pa_cons (pv 4) (pa_cons pe_non (pa_cons (pv 6) (pa_cons (pv 7) pa_nil))))) (pa_cons (pe_tup (pa_cons pe_non (pa_cons (pv 5) (pa_cons (pv 6) (pa_cons (pv 7) pa_nil))))) (pa_cons pe_int pa_nil)))))))))))))))))))) (by
        exact fun σ H Q h => menu2_t rfl rfl rfl rfl h))) 
    (pss_one (ps_ret (pe_conv (t' := tPick K) (pe_ix ix_tup (pv 3) (pe_c0 GDraw hr (by decide) rfl (pa_cons (pv 0) (pa_cons (pe_callB call_len_seq (by rfl) T.len PySem.boot_len (pa_cons (pv 3) pa_nil)) pa_nil))) (fun _ _ => rfl)) (by
        exact fun σ H Q h => pick_t rfl h)))))))))), ?_⟩

  rcases hie with rfl | ⟨q, rs, m, rfl, hq, hrl, hrs, hm⟩
  · obtain ⟨a, xs, rfl, hs, hx, hl⟩ := dp_tup hev
    refine ⟨_, rfl, a, xs, rfl, .inr (same_sqt offS_same hs), rfl, _, rfl, ?_⟩
    refine ite2 (fun _ => ?_) (fun c => absurd (by rw [hl]; exact decide_eq_true rfl) c)
    refine ⟨tp, ca, fd, hT, fun H1 v ds R1 hn hb hv => ?_⟩
    refine ⟨tp, ca, v, ds, R1.b, rfl, rfl, hv, by omega, by omega, fun H2 v2 d R2 hd hdv => ?_⟩
    exact k H2 v2 d (R1.trans R2) (hb d hd) hdv
  · have hev' := hev
    obtain ⟨a, xs, rfl, hs, hx, hl⟩ := dp_tup (show Dp K (offS [tp] H) ev (.tuple [.str (Str.ofString "push"), .int n, .int (q : Nat), ranksD rs]) from hev)
    refine ⟨_, rfl, a, xs, rfl, .inr (same_sqt offS_same hs), rfl, _, rfl, ?_⟩
    refine ite2 (fun c => ?_) (fun _ => ?_)
    · have c2 := of_decide_eq_true c
      injection c2 with c2
      rw [hl] at c2
      exact absurd c2 (by show ¬ (((4 : Nat) : Int) = 1); decide)
    cases hx with
    | @cons v1 xs1 _ _ g1 hx =>
    cases hx with
    | @cons v2 xs2 _ _ g2 hx =>
    cases hx with
    | @cons v3 xs3 _ _ g3 hx =>
    cases hx with
    | @cons rv xs4 _ _ g4 hx =>
    cases hx
    cases g1
    cases g2
    cases g3
    refine ⟨_, rfl, a, _, rfl, same_sqt offS_same hs, rfl, _, _, rfl, _, _, rfl, _, _, rfl, _, _, rfl, rfl, ?_⟩
    obtain ⟨ra, rxs, rfl, hrs1, hrx, hrl2⟩ := dp_tup (show Dp K (offS [tp] H) rv (.tuple (rs.map intsD)) from g4)
    rw [List.length_map] at hrl2
    refine ⟨_, rfl, _, rfl, ra, _, rfl, .inr (same_sqt offS_same hrs1), tp, ca, rs.length, by rw [hrl2]; rfl, hT, by omega, by omega, fun H1 r hr1 R1 => ?_⟩
    have g5 := dp_same (goT R1) g4
    refine ⟨tp, rs, r, _, rfl, rfl, R1.b.inD, g5, fun H2 hv s2 hh => ?_⟩
    have R2 := Rn.of R1.b s2
    have g6 := dp_same (goT R2) g5
    refine ⟨tp, rs, r, _, rfl, rfl, R2.b.inD, g6, fun H3 tv s3 ht => ?_⟩
    have R3 := Rn.of R2.b s3
    have g7 := dp_same (goT R3) g6
    have R13 := R1.trans (R2.trans R3)
    refine ⟨tp, ca, L, fd, _, _, hv, tv, n, q, m, r, rs, R3.b, rfl, rfl, rfl, rfl, rfl, rfl, rfl, rfl, rfl, R13.at hL ln, ln, hq, hrl, hrs, hm, hr1, hlog, dp_same (goT R13) hev', g7, dp_same (goT R3) hh, ht, fun H4 v ds R4 hn hb hv4 => ?_⟩
    refine ⟨tp, ca, v, ds, R4.b, rfl, rfl, hv4, by omega, by omega, fun H5 v5 d R5 hd hdv => ?_⟩
    exact k H5 v5 d (R13.trans (R4.trans R5)) (hb d hd) hdv
end
end K23
set_option Elab.async false
set_option linter.all false
set_option maxRecDepth 100000
set_option maxHeartbeats 4000000
namespace K23
open PySem PySem.Spec PyProof.Rows L2 Dt K23S
/-! ### rows of events -/
def nos (l : List PyData) : List Int := l.filterMap pushNo
theorem evs_iff {T : Dt} : ∀ (l : List PyData) (seen : List Int), evsGo T seen l = true ↔ (∀ e ∈ l, eventOf T e = true) ∧ (nos l).Nodup ∧ ∀ n ∈ nos l, n ∉ seen
  | [], seen => by
    unfold evsGo nos
    simp
  | e :: l, seen => by
    unfold evsGo
    rw [Bool.and_eq_true]
    cases h : pushNo e with
    | none =>
      have e1 : nos (e :: l) = nos l := by
        unfold nos
        rw [List.filterMap_cons, h]
      rw [e1, evs_iff l seen]
      simp only [List.mem_cons, forall_eq_or_imp]
      exact ⟨fun ⟨z1, z2, z3, z4⟩ => ⟨⟨z1, z2⟩, z3, z4⟩, fun ⟨⟨z1, z2⟩, z3, z4⟩ => ⟨z1, z2, z3, z4⟩⟩
    | some n =>
      have e1 : nos (e :: l) = n :: nos l := by
        unfold nos
        rw [List.filterMap_cons, h]
      show eventOf T e = true ∧ (!decide (n ∈ seen) && evsGo T (n :: seen) l) = true ↔ _
      rw [e1, Bool.and_eq_true, evs_iff l (n :: seen)]
      simp only [List.mem_cons, forall_eq_or_imp, List.nodup_cons, Bool.not_eq_true', decide_eq_false_iff_not, not_or]
      constructor
      · rintro ⟨h1, h2, h3, h4, h5⟩
        exact ⟨⟨h1, h3⟩, ⟨fun z => (h5 n z).1 rfl, h4⟩, h2, fun m hm => (h5 m hm).2⟩
      · rintro ⟨⟨h1, h3⟩, ⟨h6, h4⟩, h2, h5⟩
        exact ⟨h1, h2, h3, h4, fun m hm => ⟨fun z => h6 (z ▸ hm), h5 m hm⟩⟩
theorem nos_app (a b : List PyData) : nos (a ++ b) = nos a ++ nos b := List.filterMap_append
/-- events of which the i-th has the number s + i, if any -/
def EvSeq (fd : PyData) (s : Int) (ds : List PyData) : Prop := ∀ (i : Nat) d, ds[i]? = some d → IsEv fd (s + (i : Nat)) d
theorem seq_cons {fd d : PyData} {s : Int} {ds : List PyData} (h : EvSeq fd s (d :: ds)) : IsEv fd s d ∧ EvSeq fd (s + 1) ds := by
  refine ⟨?_, fun i e he => ?_⟩
  · have := h 0 d rfl
    simpa using this
  · have := h (i + 1) e he
    have e2 : s + ((i + 1 : Nat) : Int) = s + 1 + (i : Nat) := by omega
    rw [e2] at this
    exact this
theorem seq_nos {fd : PyData} : ∀ (ds : List PyData) (s : Int), EvSeq fd s ds → (nos ds).Nodup ∧ ∀ n ∈ nos ds, s ≤ n ∧ n < s + (ds.length : Nat)
  | [], s, _ => ⟨List.nodup_nil, (fun n z => nomatch z)⟩
  | d :: ds, s, h => by
    obtain ⟨h1, h2⟩ := seq_cons h
    obtain ⟨h3, h4⟩ := seq_nos ds (s + 1) h2
    have hl : ((d :: ds).length : Int) = (ds.length : Nat) + 1 := by
      rw [List.length_cons]
      omega
    rcases isev_no h1 with e | e
    · have e1 : nos (d :: ds) = nos ds := by
        unfold nos
        rw [List.filterMap_cons, e]
      rw [e1]
      refine ⟨h3, fun n hn => ?_⟩
      have := h4 n hn
      omega
    · have e1 : nos (d :: ds) = s :: nos ds := by
        unfold nos
        rw [List.filterMap_cons, e]
      rw [e1]
      refine ⟨List.nodup_cons.mpr ⟨fun z => ?_, h3⟩, fun n hn => ?_⟩
      · have := h4 s z
        omega
      · rcases List.mem_cons.mp hn with rfl | hn
        · omega
        · have := h4 n hn
          omega
theorem seq_good {fd : PyData} {s : Int} {ds : List PyData} (h : EvSeq fd s ds) (h0 : 0 ≤ s) (h1 : s + (ds.length : Nat) ≤ packB) : ∀ e ∈ ds, eventOf (dtOf fd) e = true := fun e he => by
  obtain ⟨i, hi⟩ := List.mem_iff_getElem?.mp he
  have := (List.getElem?_eq_some_iff.mp hi).1
  exact isev_good (h i e hi) (by omega) (by omega)
theorem seq_ok {fd : PyData} {s : Int} {ds : List PyData} (h : EvSeq fd s ds) : ∀ e ∈ ds, EvOk e := fun e he => by
  obtain ⟨i, hi⟩ := List.mem_iff_getElem?.mp he
  exact isev_ok (h i e hi)
theorem depart_good {T : Dt} : eventOf T departD = true := by
  show PyData.eqv (.str "depart") (.str "depart") = true
  decide +kernel
theorem depart_ok : EvOk departD := evok_tup fun e he => by
  obtain rfl := List.mem_singleton.mp he
  exact part_str _
theorem nos_depart : nos [departD] = [] := rfl
theorem evsOf_true {T : Dt} {l : List PyData} (h : ∀ e ∈ l, eventOf T e = true) (n : (nos l).Nodup) : evsOf T (.tuple l) = true := (evs_iff l []).mpr ⟨h, n, fun _ _ z => nomatch z⟩
theorem evsOf_bad {T : Dt} {l : List PyData} {e : PyData} (he : e ∈ l) (h : eventOf T e = false) : evsOf T (.tuple l) = false := by
  cases z : evsOf T (.tuple l) with
  | false => rfl
  | true =>
    have := ((evs_iff l []).mp z).1 e he
    rw [h] at this
    exact nomatch this
theorem evsOf_dup {T : Dt} {l : List PyData} (h : ¬ (nos l).Nodup) : evsOf T (.tuple l) = false := by
  cases z : evsOf T (.tuple l) with
  | false => rfl
  | true => exact absurd ((evs_iff l []).mp z).2.1 h
/-! ### asks about events -/
def wordsE : List Str := ["events", "named events"]
theorem wordsE_in {w : Str} (h : w ∈ wordsE) : w = "events" ∨ w = "named events" := by
  simpa [wordsE] using h
theorem ask_events {K : PySem.W.Frag} {H : Hp} {Q : VK} {E : XK} {w : Str} {x y t : V} {fd d : PyData} (hw : w = "events" ∨ w = "named events") (hx : Dp K H x fd) (hf : FormOK fd) (hy : Dp K H y d) (hl : ∀ ds, d = .tuple ds → ds.length ≤ 1000 ∧ ∀ e ∈ ds, EvOk e)
    (h : ∀ H', Same H H' → Q (.bl (evsOf (dtOf fd) d)) H') : spAsk K 6 [.str w, x, y, t] H Q E :=
  ⟨w, x, y, t, rfl, .inr (.inr (.inr ⟨hw, dtOf fd, d, dtv_of hx, hf.size, fun _ => ⟨by have := hf.ht; omega, by have := hf.nd; unfold nd at this; omega⟩, hy, hl, fun e => (by rw [hf.good] at e; exact nomatch e), fun _ H' s => h H' s⟩))⟩
theorem ask_badfE {K : PySem.W.Frag} {H : Hp} {Q : VK} {E : XK} {w : Str} {x y t : V} {fd d : PyData} (hw : w = "events" ∨ w = "named events") (hx : Dp K H x fd) (hf : BadF fd) (hy : Dp K H y d) (hl : ∀ ds, d = .tuple ds → ds.length ≤ 1000 ∧ ∀ e ∈ ds, EvOk e)
    (q : Refd K H Q "form") : spAsk K 6 [.str w, x, y, t] H Q E :=
  ⟨w, x, y, t, rfl, .inr (.inr (.inr ⟨hw, dtOf fd, d, dtv_of hx, hf.2, fun e => (by rw [hf.1] at e; exact nomatch e), hy, hl, fun _ => q, fun e => (by rw [hf.1] at e; exact nomatch e)⟩))⟩
theorem dp_lval {K : PySem.W.Frag} {S : List Addr} {H : Hp} {v : V} {ds : List PyData} (h : LVal K S H v ds) : Dp K (offS S H) v (.list ds) := by
  obtain ⟨l, xs, rfl, h1, h2⟩ := h
  exact .lst (SqL.of h1) h2
/-! ### the rows that are shown -/
def tX1 (K : PySem.W.Frag) : TE := fun σ H Q => ∃ (tp : Addr) (gv wv : V) (ds : List PyData) (w : PyData) (r : Nat), σ[6]? = some (some gv) ∧ σ[9]? = some (some wv) ∧ σ[10]? = some (some (.int (r : Nat))) ∧ InD [tp] H ∧ Dp K (offS [tp] H) gv (.tuple ds) ∧ Dp K (offS [tp] H) wv w ∧ ds.length ≤ 100 ∧
  ∀ v H', Same H H' → Dp K (offS [tp] H') v (.tuple (ds.take r ++ [w] ++ ds.drop r)) → Q v H'
def tX2 (K : PySem.W.Frag) : TE := fun σ H Q => ∃ (tp : Addr) (gv wv : V) (ds : List PyData) (w : PyData) (r : Nat), σ[6]? = some (some gv) ∧ σ[9]? = some (some wv) ∧ σ[10]? = some (some (.int (r : Nat))) ∧ InD [tp] H ∧ Dp K (offS [tp] H) gv (.tuple ds) ∧ Dp K (offS [tp] H) wv w ∧ ds.length ≤ 100 ∧
  ∀ v H', Same H H' → Dp K (offS [tp] H') v (.tuple (ds.take r ++ [w, departD] ++ ds.drop r ++ [w])) → Q v H'
def tX3 (K : PySem.W.Frag) : TE := fun σ H Q => ∃ (tp : Addr) (gv wv : V) (ds : List PyData) (w : PyData) (r : Nat), σ[6]? = some (some gv) ∧ σ[12]? = some (some wv) ∧ σ[10]? = some (some (.int (r : Nat))) ∧ InD [tp] H ∧ Dp K (offS [tp] H) gv (.tuple ds) ∧ Dp K (offS [tp] H) wv w ∧ ds.length ≤ 100 ∧
  ∀ v H', Same H H' → Dp K (offS [tp] H') v (.tuple (ds.take r ++ [w] ++ ds.drop (r + 1))) → Q v H'
def tX4 (K : PySem.W.Frag) : TE := fun σ H Q => ∃ (tp : Addr) (gv ev : V) (ds : List PyData) (w : PyData) (r : Nat), σ[6]? = some (some gv) ∧ σ[5]? = some (some ev) ∧ σ[10]? = some (some (.int (r : Nat))) ∧ InD [tp] H ∧ Dp K (offS [tp] H) gv (.tuple ds) ∧ LVal K [tp] H ev ds ∧ ds[r]? = some w ∧ ds.length ≤ 100 ∧
  ∀ v H', Same H H' → Dp K (offS [tp] H') v (.tuple (ds ++ [departD, w])) → Q v H'
def tTh (K : PySem.W.Frag) : TE := fun σ H Q => ∃ (tp : Addr) (gv : V) (ds : List PyData), σ[6]? = some (some gv) ∧ InD [tp] H ∧ Dp K (offS [tp] H) gv (.tuple ds) ∧ ds.length ≤ 100 ∧
  ∀ v H', Same H H' → Dp K (offS [tp] H') v (.tuple [.tuple [], .tuple ds, .tuple ([departD] ++ ds), .tuple (ds ++ [departD, departD])]) → Q v H'
section
variable {K : PySem.W.Frag} {σ : L2.St} {H : Hp} {Q : VK}
theorem pv_dep {tp : Addr} (hS : InD [tp] H) : PV K [tp] (tTup (tCons (tC (.str (Str.ofString "depart"))) tNil)) σ H departD := pv_tup hS (pvs_cons pv_str pvs_nil) (by show 1 ≤ 1000; decide)
theorem x1_t (h : tX1 K σ H Q) : tOp (rCatA K) (tOp (rCatA K) (tSl (rSlA K) (tVar 6) tNoPart (tPart (tVar 10))) (tTup (tCons (tVar 9) tNil))) (tSl (rSlA K) (tVar 6) (tPart (tVar 10)) tNoPart) σ H Q := by
  obtain ⟨tp, gv, wv, ds, w, r, h6, h9, h10, hS, dg, dw, hn, k⟩ := h
  have xg := pv_var h6 dg
  have n := pn_v h10
  exact pv_use (pv_cat hS (pv_cat hS (pv_take hS xg n) (pv_tup hS (pvs_cons (pv_var h9 dw) pvs_nil) (by show 1 ≤ 1000; decide)) (by rw [List.length_take]; show min r _ + 1 ≤ 10000; omega)) (pv_drop hS xg n) (by rw [List.length_append, List.length_take, List.length_drop]; show min r _ + 1 + _ ≤ 10000; omega)) k
theorem x2_t (h : tX2 K σ H Q) : tOp (rCatA K) (tOp (rCatA K) (tOp (rCatA K) (tSl (rSlA K) (tVar 6) tNoPart (tPart (tVar 10))) (tTup (tCons (tVar 9) (tCons (tTup (tCons (tC (.str (Str.ofString "depart"))) tNil)) tNil)))) (tSl (rSlA K) (tVar 6) (tPart (tVar 10)) tNoPart)) (tTup (tCons (tVar 9) tNil)) σ H Q := by
  obtain ⟨tp, gv, wv, ds, w, r, h6, h9, h10, hS, dg, dw, hn, k⟩ := h
  have xg := pv_var h6 dg
  have n := pn_v h10
  have xw := pv_var h9 dw
  exact pv_use (pv_cat hS (pv_cat hS (pv_cat hS (pv_take hS xg n) (pv_tup hS (pvs_cons xw (pvs_cons (pv_dep hS) pvs_nil)) (by show 2 ≤ 1000; decide)) (by rw [List.length_take]; show min r _ + 2 ≤ 10000; omega)) (pv_drop hS xg n) (by rw [List.length_append, List.length_take, List.length_drop]; show min r _ + 2 + _ ≤ 10000; omega))
    (pv_tup hS (pvs_cons xw pvs_nil) (by show 1 ≤ 1000; decide)) (by rw [List.length_append, List.length_append, List.length_take, List.length_drop]; show min r _ + 2 + _ + 1 ≤ 10000; omega)) k
theorem x3_t (h : tX3 K σ H Q) : tOp (rCatA K) (tOp (rCatA K) (tSl (rSlA K) (tVar 6) tNoPart (tPart (tVar 10))) (tTup (tCons (tVar 12) tNil))) (tSl (rSlA K) (tVar 6) (tPart (tOp (rI0 fun i j => .int (i + j)) (tVar 10) (tC (.int 1)))) tNoPart) σ H Q := by
  obtain ⟨tp, gv, wv, ds, w, r, h6, h9, h10, hS, dg, dw, hn, k⟩ := h
  have xg := pv_var h6 dg
  have n := pn_v h10
  have n1 : PN (tOp (rI0 fun i j => .int (i + j)) (tVar 10) (tC (.int 1))) σ ((r + 1 : Nat) : Int) := pn_add n pn_c
  exact pv_use (pv_cat hS (pv_cat hS (pv_take hS xg n) (pv_tup hS (pvs_cons (pv_var h9 dw) pvs_nil) (by show 1 ≤ 1000; decide)) (by rw [List.length_take]; show min r _ + 1 ≤ 10000; omega)) (pv_drop hS xg n1) (by rw [List.length_append, List.length_take, List.length_drop]; show min r _ + 1 + _ ≤ 10000; omega)) k
theorem x4_t (h : tX4 K σ H Q) : tOp (rCatA K) (tVar 6) (tTup (tCons (tTup (tCons (tC (.str (Str.ofString "depart"))) tNil)) (tCons (tOp (rIxL K) (tVar 5) (tVar 10)) tNil))) σ H Q := by
  obtain ⟨tp, gv, ev, ds, w, r, h6, h5, h10, hS, dg, le, hr, hn, k⟩ := h
  exact pv_use (pv_cat hS (pv_var h6 dg) (pv_tup hS (pvs_cons (pv_dep hS) (pvs_cons (pv_ixL (pl_var h5 le) (pn_v h10) hr) pvs_nil)) (by show 2 ≤ 1000; decide)) (by show _ + 2 ≤ 10000; omega)) k
theorem th_t (h : tTh K σ H Q) : tTup (tCons (tTup tNil) (tCons (tVar 6) (tCons (tOp (rCatA K) (tTup (tCons (tTup (tCons (tC (.str (Str.ofString "depart"))) tNil)) tNil)) (tVar 6)) (tCons (tOp (rCatA K) (tVar 6) (tTup (tCons (tTup (tCons (tC (.str (Str.ofString "depart"))) tNil)) (tCons (tTup (tCons (tC (.str (Str.ofString "depart"))) tNil)) tNil)))) tNil)))) σ H Q := by
  obtain ⟨tp, gv, ds, h6, hS, dg, hn, k⟩ := h
  have xg := pv_var h6 dg
  exact pv_use (pv_tup hS (pvs_cons (pv_tup hS pvs_nil (by show 0 ≤ 1000; decide)) (pvs_cons xg (pvs_cons (pv_cat hS (pv_tup hS (pvs_cons (pv_dep hS) pvs_nil) (by show 1 ≤ 1000; decide)) xg (by show 1 + _ ≤ 10000; omega)) (pvs_cons (pv_cat hS xg (pv_tup hS (pvs_cons (pv_dep hS) (pvs_cons (pv_dep hS) pvs_nil)) (by show 2 ≤ 1000; decide)) (by show _ + 2 ≤ 10000; omega)) pvs_nil)))) (by show 4 ≤ 1000; decide)) k
end
/-! ### () several times -/
theorem empties_read {σ : L2.St} {K : PySem.W.Frag} {H : Hp} {tp L : Addr} {n : Nat} {xs : List V} {Q : VK} {r : List V → Hp → VK → Prop} (hr : r = rTupQ K) (hS : InD [tp] H) (hd : σ[2]? = some (some (.ref L))) (hL : H L = some (.lst xs)) (hx : xs[0]? = some (.int (n : Nat))) (hn : n ≤ 100)
    (hw : ∀ y, wipe ((wipe σ [4]).set 4 (some y)) [4] = wipe σ [4]) (k : ∀ v H', Same H H' → Dp K (offS [tp] H') v (ranksD (List.replicate n [])) → Q v H') :
    tCB r (tCons (tLc (iRng1 (tCons (tOp (rIxL K) (tVar 2) (tC (.int 0))) tNil)) (gName 4) tYes (tTup tNil) [4]) tNil) σ H Q := by
  subst hr
  refine ⟨_, hd, L, xs, (0 : Nat), _, rfl, rfl, SqL.of hL, atI_nat hx, _, rfl, by omega, by omega, fun Dl hDl => ?_⟩
  refine lc_range (lo := 0) (n := n) (fun i H' => Same H H' ∧ ∃ acc, H' Dl = some (.lst acc) ∧ acc.length = i ∧ Made K H H' Dl acc ((List.replicate i ([] : List Int)).map intsD)) ⟨same_new hDl, [], upd_same, rfl, fun _ _ => .nil⟩ ?_ ?_
  · rintro i H' hi ⟨sm, acc, hD, hal, hm⟩
    refine ⟨hw _, (by show 0 ≤ sizeLine; decide), fun p hp => ⟨acc, (same_new hp) _ _ hD, small1000 (by omega), same_mut (sm.trans (same_new hp)) hDl, acc ++ [.ref p], upd_same, by rw [List.length_append]; show acc.length + 1 = i + 1; omega, ?_⟩⟩
    have f : DpF K H' (upd H' p (.tup [])) (.ref p) (intsD []) := fun H3 hk => .tup (SqT.of (hk p _ hp upd_same)) .nil
    rw [List.replicate_succ', List.map_append]
    exact Made.step sm hD (same_new hp) hm f
  · rintro H2 ⟨sm, acc, hD, hal, hm⟩
    refine ⟨Dl, acc, rfl, .inl ⟨SqL.of hD, fun l hl => ?_⟩⟩
    have sl := same_new (o := .tup acc) hl
    refine k _ _ (sm.trans sl) (.tup (sqt_offS upd_same ((hS.same sm).new hl)) (hm _ fun b u h1 h2 h3 => ?_))
    rw [offS_ne (hS.new h1)]
    exact sl _ _ h3
def tWay (K : PySem.W.Frag) : TE := fun σ H Q => ∃ (tp L : Addr) (n : Nat) (s : Int) (xs : List V), InD [tp] H ∧ σ[2]? = some (some (.ref L)) ∧ σ[3]? = some (some (.int s)) ∧ H L = some (.lst xs) ∧ xs[0]? = some (.int (n : Nat)) ∧ n ≤ 100 ∧ (∀ y, wipe ((wipe σ [4]).set 4 (some y)) [4] = wipe σ [4]) ∧
  ∀ v H', Same H H' → Dp K (offS [tp] H') v (pushD (s + 25) 0 (List.replicate n [])) → Q v H'
theorem way_t {σ : L2.St} {K : PySem.W.Frag} {H : Hp} {Q : VK} {r : List V → Hp → VK → Prop} (hr : r = rTupQ K) (h : tWay K σ H Q) :
    tTup (tCons (tC (.str (Str.ofString "push"))) (tCons (tOp (rI0 fun i j => .int (i + j)) (tVar 3) (tC (.int 25))) (tCons (tC (.int 0)) (tCons (tCB r (tCons (tLc (iRng1 (tCons (tOp (rIxL K) (tVar 2) (tC (.int 0))) tNil)) (gName 4) tYes (tTup tNil) [4]) tNil)) tNil)))) σ H Q := by
  obtain ⟨tp, L, n, s, xs, hS, h2, h3, hL, hx, hn, hw, k⟩ := h
  have xe : PV K [tp] (tCB r (tCons (tLc (iRng1 (tCons (tOp (rIxL K) (tVar 2) (tC (.int 0))) tNil)) (gName 4) tYes (tTup tNil) [4]) tNil)) σ H (ranksD (List.replicate n [])) := fun H1 s1 Q q => empties_read hr (hS.same s1) h2 (s1 _ _ hL) hx hn hw q
  exact pv_use (pv_tup hS (pvs_cons pv_str (pvs_cons (pv_n (pn_add (pn_v h3) (pn_c (k := 25)))) (pvs_cons (pv_int (i := 0)) (pvs_cons xe pvs_nil)))) (by show 4 ≤ 1000; decide)) k
end K23
set_option Elab.async false
set_option linter.all false
set_option maxRecDepth 100000
set_option maxHeartbeats 8000000
namespace K23
open PySem PySem.Spec PyProof.Rows L2 Dt K23S
/-! ### _law_events -/
theorem last_non {σ : L2.St} {H : Hp} {F : List V → Hp → Prop} (h : F [.non] H) : tCons (tC .non) tNil σ H F := h
theorem last_non2 {σ : L2.St} {H : Hp} {F : List V → Hp → Prop} (h : F [.non, .non] H) : tCons (tC .non) (tCons (tC .non) tNil) σ H F := h
/-! data without lists: lists may change -/
mutual
def noL : PyData → Bool
  | .list _ => false
  | .dict _ => false
  | .tuple ds => noLs ds
  | .none => true
  | .bool _ => true
  | .int _ => true
  | .str _ => true
def noLs : List PyData → Bool
  | [] => true
  | d :: ds => noL d && noLs ds
end
theorem keep_sqt {K : PySem.W.Frag} {H H' : Hp} {a : Addr} {xs : List V} (k : KeepT H H') (h : SqT K H a xs) : SqT K H' a xs := by
  rcases h with (h | ⟨o, h⟩) | h
  · exact .inl (.inl ((k _ _).1 h))
  · exact .inl (.inr ⟨o, (k _ _).2 o h⟩)
  · exact .inr h
theorem dps_keep {K : PySem.W.Frag} {H H' : Hp} (k : KeepT H H') : ∀ {vs : List V} {ds : List PyData}, DpAll K H vs ds → noLs ds = true → DpAll K H' vs ds
  | _, _, .nil, _ => .nil
  | _, _, @DpAll.cons _ _ v vs d ds h q, n => by
    unfold noLs at n
    rw [Bool.and_eq_true] at n
    have hq := dps_keep k q n.2
    have n1 := n.1
    cases h with
    | tup hs ha =>
      unfold noL at n1
      exact .cons (.tup (keep_sqt k hs) (dps_keep k ha n1)) hq
    | non => exact .cons .non hq
    | bl b => exact .cons (.bl b) hq
    | int i => exact .cons (.int i) hq
    | str z => exact .cons (.str z) hq
    | lst _ _ =>
      unfold noL at n1
      exact nomatch n1
theorem dp_keep {K : PySem.W.Frag} {H H' : Hp} (k : KeepT H H') {v : V} {d : PyData} (h : Dp K H v d) (n : noL d = true) : Dp K H' v d := by
  have := dps_keep (vs := [v]) (ds := [d]) k (.cons h .nil) (by unfold noLs; rw [n]; unfold noLs; rfl)
  cases this with
  | cons h _ => exact h
theorem noL_ints : ∀ l : List Int, noLs (l.map PyData.int) = true
  | [] => by unfold noLs; rfl
  | i :: l => by
    rw [List.map_cons]
    unfold noLs
    rw [noL_ints l]
    unfold noL
    rfl
theorem noL_ranks : ∀ rs : List (List Int), noLs (rs.map intsD) = true
  | [] => by unfold noLs; rfl
  | r :: rs => by
    rw [List.map_cons]
    unfold noLs
    rw [noL_ranks rs]
    unfold intsD noL
    rw [noL_ints]
    rfl
theorem noL_ev {fd d : PyData} {n : Int} (h : IsEv fd n d) : noL d = true := by
  rcases h with rfl | ⟨q, rs, m, rfl, _⟩
  · unfold departD
    simp [noL, noLs]
  · unfold pushD ranksD
    simp [noL, noLs, noL_ranks]
def tStart (K : PySem.W.Frag) : TE := fun σ H Q => ∃ (tp ca : Addr), σ[0]? = some (some (.ref tp)) ∧ Tape K H tp ca ∧ ∀ H' s, Rn K tp ca H H' → 0 ≤ s → s + 26 ≤ packB → Q (.int s) H'
theorem start_t {K : PySem.W.Frag} {σ : L2.St} {H : Hp} {Q : VK} (h : tStart K σ H Q) : tOp (rIxT K) (tTup (tCons (tC (.int 0)) (tCons (tC (.int 7)) (tCons (tOp (rI0 fun i j => .int (i - j)) (tC (.int packB)) (tC (.int 26))) tNil)))) (tCall (spDraw K) [] E0 (tCons (tVar 0) (tCons (tC (.int 3)) tNil))) σ H Q := by
  obtain ⟨tp, ca, h0, hT, k⟩ := h
  refine pv_menu (n := 3) hT (pv_tup hT.inD (pvs_cons (pv_int (i := 0)) (pvs_cons (pv_int (i := 7)) (pvs_cons (pv_n (pn_sub (pn_c (k := packB)) (pn_c (k := 26)))) pvs_nil))) (by show 3 ≤ 1000; decide)) h0 rfl (by decide) (by decide) fun H' v d R hd hv => ?_
  simp only [List.mem_cons, List.not_mem_nil, or_false] at hd
  rcases hd with rfl | rfl | rfl
  · cases hv
    exact k H' 0 R (by decide) (by decide)
  · cases hv
    exact k H' 7 R (by decide) (by decide)
  · cases hv
    exact k H' _ R (by decide) (by decide)
def tEvs (K : PySem.W.Frag) : TS := fun D σ H => ∃ (tp ca L : Addr) (fv : V) (fd : PyData) (s : Int), σ = [some (.ref tp), some fv, some (.ref L), some (.int s), none, none, none, none, none, none, none, none, none] ∧ WS K tp ca fv fd L H ∧
  ∀ H' v ds, Rn K tp ca H H' → ds.length ≤ 24 → EvSeq fd s ds → LVal K [tp] H' v ds → D.nx [some (.ref tp), some fv, some (.ref L), some (.int s), none, some v, none, none, none, none, none, none, none] H'
def stE (tp : Addr) (fv : V) (L : Addr) (s : Int) (o4 : Option V) (ev gv : V) (o7 o8 o9 o10 o11 o12 : Option V) : L2.St := [some (.ref tp), some fv, some (.ref L), some (.int s), o4, some ev, some gv, o7, o8, o9, o10, o11, o12]
structure ES (K : PySem.W.Frag) (tp ca : Addr) (fv : V) (fd : PyData) (L : Addr) (ev gv : V) (ds : List PyData) (H : Hp) : Prop where
  w : WS K tp ca fv fd L H
  e : LVal K [tp] H ev ds
  g : Dp K (offS [tp] H) gv (.tuple ds)
theorem ES.rn {K : PySem.W.Frag} {tp ca L : Addr} {fv ev gv : V} {fd : PyData} {ds : List PyData} {H H' : Hp} (h : ES K tp ca fv fd L ev gv ds H) (r : Rn K tp ca H H') : ES K tp ca fv fd L ev gv ds H' := ⟨h.w.rn r, h.e.go (goT r), dp_same (goT r) h.g⟩
theorem nodup_mid {a b : List Int} {w : Int} (h : (a ++ b).Nodup) (hw : w ∉ a ++ b) : (a ++ [w] ++ b).Nodup := by
  rw [List.append_assoc]
  exact (List.perm_middle.nodup_iff).mpr (List.nodup_cons.mpr ⟨hw, h⟩)
theorem dup_two {a b : List Int} {w : Int} : ¬ (a ++ [w] ++ b ++ [w]).Nodup := fun h => by
  have := (List.nodup_append.mp h).2.2 w (by simp) w (by simp)
  exact this rfl
section
variable {P : Program} {w : World} {K : PySem.W.Frag} {mg : Str → Option Value} {base : Heap} {C U fI fG B S PA : Addr}
theorem ok_events1 (D : DefAt K mg "_law_events" s_law_events ["tape"]) (T : Txt K mg) (GDraw : CalX P w K mg base CX0 1 "_law_draw" ["tape", "many"] (spDraw K)) (GSame : CalX P w K mg base CX0 6 "_law_same" ["one", "other"] (spSame K 6))
    (GForm : CalX P w K mg base CX0 2 "_law_form" ["tape"] (spForm K)) (GDeeps : CalX P w K mg base CX0 1 "_law_deeps" ["form"] (spDeeps K)) (GBadForm : CalX P w K mg base CX0 2 "_law_bad_form" ["tape"] (spBadForm K))
    (GEvent : CalX P w K mg base CX0 3 "_law_event" ["tape", "deeps", "number"] (spEvt K)) (GBadEvent : CalX P w K mg base CX0 3 "_law_bad_event" ["tape", "deeps", "event"] (spBadEvt K)) (GAsk : CalX P w K mg base CX0 25 "_law_ask" ["word", "one", "two", "three"] (spAsk K 6)) : CalX P w K mg base CX0 26 "_law_events" ["tape"] (spWays K) := by
  refine D.ok sc_law_events (fun vs H Q E h => ?_) (fun f cdv A outer s H vs Q E hr h => ?_)
  · obtain ⟨tp, ca, rfl, _⟩ := h
    rfl
  obtain ⟨tp, ca, rfl, hT, q0⟩ := h
  refine ⟨_, (pss_cons (ps_set (i := 1) sc_law_events.nd rfl (.inl rfl) (pe_c0 GForm hr (by decide) rfl (pa_cons (pv 0) pa_nil))) 
    (pss_cons (ps_set (i := 2) sc_law_events.nd rfl (.inr rfl) (pe_c0 GDeeps hr (by decide) rfl (pa_cons (pv 1) pa_nil))) 
    (pss_cons (ps_set (i := 3) sc_law_events.nd rfl (.inr rfl) (pe_conv (t' := tStart K) (pe_ix ix_tup (pe_tup (pa_cons pe_int (pa_cons pe_int (pa_cons (pe_op op_sub (pe_conv (t' := tC (.int packB)) (pe_op op_shl pe_int pe_int) (shl_of (by decide) (by decide +kernel))) pe_int) pa_nil)))) (pe_c0 GDraw hr (by decide) rfl (pa_cons (pv 0) (pa_cons pe_int pa_nil))) (fun _ _ => rfl)) (by
        exact fun σ H Q h => start_t h))) 
    (pss_cons (ps_conv (t' := tEvs K) (ps_setLc (i := 5) (own := [("k", 4)]) (g := gName 4) (tt := tYes) (by rfl) sc_law_events.nd rfl rfl (sw_true rfl rfl (by decide) (by decide)) (pi_range1 (by rfl) T.range (pa_cons (pe_c0 GDraw hr (by decide) rfl (pa_cons (pv 0) (pa_cons pe_int pa_nil))) pa_nil)) (blkOk_by (own := [("k", 4)]) (N := N_law_events) (sc := defScope s_law_events) (by decide +kernel)) (fun _ _ _ _ _ => pg_name (i := 4) sc_law_events.nd rfl (Or.inl rfl)) (fun _ _ _ _ _ => pts_nil) (fun _ _ _ _ _ => by exact (pe_c0 GEvent hr (by decide) rfl (pa_cons (pv 0) (pa_cons (pv 2) (pa_cons (pe_op op_add (pv 3) (pv 4)) pa_nil)))))) (by
        rintro D σ H ⟨tp, ca, L, fv, fd, s, rfl, W, k⟩
        refine ⟨_, rfl, tp, ca, 25, rfl, W.t, by decide, by decide, fun H1 n hn R1 => ⟨_, rfl, by omega, by omega, fun Dl hDl => ?_⟩⟩
        have W1 := W.rn R1
        have nD : Dl ≠ tp := W1.t.new hDl
        refine lc_range (lo := 0) (n := n) (fun i H' => Rn K tp ca H1 H' ∧ ∃ acc ds, H' Dl = some (.lst acc) ∧ acc.length = i ∧ ds.length = i ∧ EvSeq fd s ds ∧ DpAll K (offS [tp, Dl] H') acc ds) ⟨Rn.of W1.t (same_new hDl), [], [], upd_same, rfl, rfl, (fun i d z => nomatch z), .nil⟩ ?_ ?_
        · rintro i H' hi ⟨R2, acc, ds, hD, hal, hdl, hse, hdp⟩
          have W2 := W1.rn R2
          refine ⟨rfl, _, rfl, _, rfl, _, rfl, _, rfl, _, _, rfl, rfl, tp, ca, L, fd, _, rfl, W2.t, W2.ok, W2.l, W2.n, fun H2 v d R3 hie hv => ?_⟩
          have hD2 := R3.at hD nD
          refine ⟨acc, hD2, small1000 (by omega), (R2.trans R3).mut hDl, acc ++ [v], ds ++ [d], upd_same, by rw [List.length_append]; show acc.length + 1 = i + 1; omega, by rw [List.length_append]; show ds.length + 1 = i + 1; omega, fun j e he => ?_, ?_⟩
          · by_cases c : j < ds.length
            · rw [List.getElem?_append_left c] at he
              exact hse j e he
            · have hj := (List.getElem?_eq_some_iff.mp he).1
              rw [List.length_append] at hj
              have hj2 : j < ds.length + 1 := hj
              obtain rfl : j = ds.length := by omega
              rw [List.getElem?_append_right (Nat.le_refl _), Nat.sub_self] at he
              obtain rfl := Option.some.inj he
              rw [hdl]
              rw [Int.zero_add] at hie
              exact hie
          · have g : GoS [tp, Dl] H' (upd H2 Dl (.lst (acc ++ [v]))) := GoS.upd (GoS.rn R3 (by simp)) (by simp)
            refine Dp_snoc (dps_same g hdp) (dp_keep (fun y xs => ⟨fun hy => ?_, fun o hy => ?_⟩) hv (noL_ev hie))
            · obtain ⟨y1, y2⟩ := offS_some hy
              have ny : y ≠ Dl := fun z => by
                rw [z, hD2] at y2
                exact HO.noConfusion (Option.some.inj y2)
              rw [offS_ne (fun z => by
                rcases List.mem_cons.mp z with z | z
                · exact y1 (by rw [z]; simp)
                · exact ny (List.mem_singleton.mp z)), upd_ne ny]
              exact y2
            · obtain ⟨y1, y2⟩ := offS_some hy
              have ny : y ≠ Dl := fun z => by
                rw [z, hD2] at y2
                exact HO.noConfusion (Option.some.inj y2)
              rw [offS_ne (fun z => by
                rcases List.mem_cons.mp z with z | z
                · exact y1 (by rw [z]; simp)
                · exact ny (List.mem_singleton.mp z)), upd_ne ny]
              exact y2
        · rintro H2 ⟨R2, acc, ds, hD, hal, hdl, hse, hdp⟩
          exact k H2 (.ref Dl) ds (R1.trans R2) (by omega) hse ⟨Dl, acc, rfl, by rw [offS_ne (W1.t.inD.new hDl)]; exact hD, dps_same (offS_sub (by simp)) hdp⟩)) 
    (pss_cons (ps_set (i := 6) sc_law_events.nd rfl (.inl rfl) (pe_callTy call_tuple_of (by rfl) T.tuple PyProof.Rows.boot_tuple (pa_cons (pv 5) pa_nil))) 
    (pss_cons (ps_for PassesOwn.never rfl (pi_tup (pe_conv (t' := tTh K) (pe_tup (pa_cons (pe_tup pa_nil) (pa_cons (pv 6) (pa_cons (pe_op op_catA (pe_tup (pa_cons (pe_tup (pa_cons pe_str pa_nil)) pa_nil)) (pv 6)) (pa_cons (pe_op op_catA (pv 6) (pe_tup (pa_cons (pe_tup (pa_cons pe_str pa_nil)) (pa_cons (pe_tup (pa_cons pe_str pa_nil)) pa_nil)))) pa_nil))))) (by
        exact fun σ H Q h => th_t h))) (pg_name (i := 7) sc_law_events.nd rfl (Or.inl rfl)) 
      (pss_one (ps_for PassesOwn.never rfl (pi_tup (pe_tup (pa_cons pe_str (pa_cons pe_str pa_nil)))) (pg_name (i := 8) sc_law_events.nd rfl (Or.inl rfl)) 
        (pss_one (ps_if (pt_cmpR op_isnot_bl (pe_c0 GAsk hr (by decide) rfl (pa_cons (pv 8) (pa_cons (pv 1) (pa_cons (pv 7) (pa_cons pe_non pa_nil))))) pe_bl (nomark _)) 
          (pss_one (ps_ret pe_bl)) pss_nil))))) 
    (pss_cons (ps_if (PW.pt (pw_or (pt_cmpR op_isnot_bl (pe_c0 GAsk hr (by decide) rfl (pa_cons pe_str (pa_cons (pv 1) (pa_cons (pv 5) (pa_cons pe_non pa_nil))))) pe_bl (nomark _)) (pw_or1 (pt_cmpR op_isnot_bl (pe_c0 GAsk hr (by decide) rfl (pa_cons pe_str (pa_cons (pv 1) (pa_cons pe_non (pa_cons pe_non pa_nil))))) pe_bl (nomark _))))) 
      (pss_one (ps_ret pe_bl)) pss_nil) 
    (pss_cons (ps_set (i := 9) sc_law_events.nd rfl (.inl rfl) (pe_conv (t' := tWay K) (pe_tup (pa_cons pe_str (pa_cons (pe_op op_add (pv 3) pe_int) (pa_cons pe_int (pa_cons (pe_callTy call_tuple_of (by rfl) T.tuple PyProof.Rows.boot_tuple (pa_cons (pe_lc (own := [("k", 4)]) (g := gName 4) (tt := tYes) (by rfl) sc_law_events.nd (pi_range1 (by rfl) T.range (pa_cons (pe_ix ix_list (pv 2) pe_int (fun _ _ => rfl)) pa_nil)) (blkOk_by (own := [("k", 4)]) (N := N_law_events) (sc := defScope s_law_events) (by decide +kernel)) (fun _ _ _ _ _ => pg_name (i := 4) sc_law_events.nd rfl (Or.inl rfl)) (fun _ _ _ _ _ => pts_nil) (fun _ _ _ _ _ => by exact (pe_tup pa_nil))) pa_nil)) pa_nil))))) (by
        exact fun σ H Q h => way_t rfl h))) 
    (pss_cons (ps_set (i := 10) sc_law_events.nd rfl (.inl rfl) (pe_c0 GDraw hr (by decide) rfl (pa_cons (pv 0) (pa_cons (pe_op op_add (pe_callB call_len_seq (by rfl) T.len PySem.boot_len (pa_cons (pv 5) pa_nil)) pe_int) pa_nil)))) 
    (pss_cons (ps_if (pt_cmpR op_isnot_bl (pe_c0 GAsk hr (by decide) rfl (pa_cons pe_str (pa_cons (pv 1) (pa_cons (pe_conv (t' := tX1 K) (pe_op op_catA (pe_op op_catA (pe_slice sl_tupA (pv 6) po_none (po_some (pv 10))) (pe_tup (pa_cons (pv 9) pa_nil))) (pe_slice sl_tupA (pv 6) (po_some (pv 10)) po_none)) (by
        exact fun σ H Q h => x1_t h)) (pa_cons pe_non pa_nil))))) pe_bl (nomark _)) 
      (pss_one (ps_ret pe_bl)) pss_nil) 
    (pss_cons (ps_if (pt_cmpR op_isnot_bl (pe_c0 GAsk hr (by decide) rfl (pa_cons pe_str (pa_cons (pv 1) (pa_cons (pe_conv (t' := tX2 K) (pe_op op_catA (pe_op op_catA (pe_op op_catA (pe_slice sl_tupA (pv 6) po_none (po_some (pv 10))) (pe_tup (pa_cons (pv 9) (pa_cons (pe_tup (pa_cons pe_str pa_nil)) pa_nil)))) (pe_slice sl_tupA (pv 6) (po_some (pv 10)) po_none)) (pe_tup (pa_cons (pv 9) pa_nil))) (by
        exact fun σ H Q h => x2_t h)) (pa_cons pe_non pa_nil))))) pe_bl (nomark _)) 
      (pss_one (ps_ret pe_bl)) pss_nil) 
    (pss_cons (ps_for PassesOwn.never rfl (pi_range1 (by rfl) T.range (pa_cons (pe_callB (call_min2 rfl) (by rfl) T.min (by decide +kernel) (pa_cons pe_int (pa_cons (pe_callB call_len_seq (by rfl) T.len PySem.boot_len (pa_cons (pv 5) pa_nil)) pa_nil))) pa_nil)) (pg_name (i := 4) sc_law_events.nd rfl (Or.inl rfl)) 
      (pss_cons (ps_set (i := 10) sc_law_events.nd rfl (.inl rfl) (pe_c0 GDraw hr (by decide) rfl (pa_cons (pv 0) (pa_cons (pe_callB call_len_seq (by rfl) T.len PySem.boot_len (pa_cons (pv 5) pa_nil)) pa_nil)))) 
      (pss_cons (ps_for PassesOwn.never rfl (pi_range1 (by rfl) T.range (pa_cons pe_int pa_nil)) (pg_name (i := 11) sc_law_events.nd rfl (Or.inl rfl)) 
        (pss_cons (ps_set (i := 12) sc_law_events.nd rfl (.inl rfl) (pe_c0 GBadEvent hr (by decide) rfl (pa_cons (pv 0) (pa_cons (pv 2) (pa_cons (pe_ix ix_list (pv 5) (pv 10) (fun _ _ => rfl)) pa_nil))))) 
        (pss_one (ps_if (pt_cmpR op_isnot_bl (pe_c0 GAsk hr (by decide) rfl (pa_cons pe_str (pa_cons (pv 1) (pa_cons (pe_conv (t' := tX3 K) (pe_op op_catA (pe_op op_catA (pe_slice sl_tupA (pv 6) po_none (po_some (pv 10))) (pe_tup (pa_cons (pv 12) pa_nil))) (pe_slice sl_tupA (pv 6) (po_some (pe_op op_add (pv 10) pe_int)) po_none)) (by
        exact fun σ H Q h => x3_t h)) (pa_cons pe_non pa_nil))))) pe_bl (nomark _)) 
          (pss_one (ps_ret pe_bl)) pss_nil)))) 
      (pss_one (ps_if (PW.pt (pw_and (pt_cmpR op_eq (pe_callB call_len_seq (by rfl) T.len PySem.boot_len (pa_cons (pe_ix ix_list (pv 5) (pv 10) (fun _ _ => rfl)) pa_nil)) pe_int (nomark _)) (pw_and1 (pt_cmpR op_isnot_bl (pe_c0 GAsk hr (by decide) rfl (pa_cons pe_str (pa_cons (pv 1) (pa_cons (pe_conv (t' := tX4 K) (pe_op op_catA (pv 6) (pe_tup (pa_cons (pe_tup (pa_cons pe_str pa_nil)) (pa_cons (pe_ix ix_list (pv 5) (pv 10) (fun _ _ => rfl)) pa_nil)))) (by
        exact fun σ H Q h => x4_t h)) (pa_cons pe_non pa_nil))))) pe_bl (nomark _))))) 
        (pss_one (ps_ret pe_bl)) pss_nil))))) 
    (pss_cons (ps_if (pt_not (pt_val (pe_c0 GSame hr (by decide) rfl (pa_cons (pe_c0 GAsk hr (by decide) rfl (pa_cons pe_str (pa_cons (pe_c0 GBadForm hr (by decide) rfl (pa_cons (pv 0) pa_nil)) (pa_cons (pv 6) (pa_cons pe_non pa_nil))))) (pa_cons (pe_conv (t' := tRefD K "form") (pe_tup (pa_cons pe_str (pa_cons pe_str (pa_cons (pe_un un_neg pe_int) pa_nil)))) refd_t) pa_nil))))) 
      (pss_one (ps_ret pe_bl)) pss_nil) 
    (pss_one (ps_ret (pe_cmpR op_is_bl (pe_c0 GAsk hr (by decide) rfl (pa_cons pe_str (pa_cons (pv 1) (pa_cons (pv 6) (pa_cons pe_non pa_nil))))) pe_bl (nomark _))))))))))))))))), ?_⟩

  refine ⟨_, rfl, tp, ca, rfl, hT, fun H1 fv fd R1 hf hfd => ?_⟩
  refine ⟨_, rfl, fv, fd, rfl, dp_onS hfd, hf, fun H2 L s2 hL0 hL => ?_⟩
  have R2 := R1.same s2
  have W2 : WS K tp ca fv fd L H2 := ⟨R2.b, dp_same (GoS.of (S := [tp]) s2) hfd, hf, hL, R1.b.new hL0⟩
  obtain ⟨len1, len2⟩ := W2.len
  refine ⟨tp, ca, rfl, W2.t, fun H3 s0 R3 s00 s01 => ?_⟩
  have W3 := W2.rn R3
  refine ⟨tp, ca, L, fv, fd, s0, rfl, W3, fun H4 ev ds R4 hdl hseq hev => ?_⟩
  have W4 := W3.rn R4
  have hgood := seq_good hseq s00 (by omega)
  have hok := seq_ok hseq
  obtain ⟨hnd, hrg⟩ := seq_nos ds s0 hseq
  have okE : ∀ es, PyData.tuple ds = .tuple es → es.length ≤ 1000 ∧ ∀ e ∈ es, EvOk e := fun es e => by
    injection e with e
    rw [← e]
    exact ⟨by omega, hok⟩
  have okOf : ∀ {l : List PyData}, l.length ≤ 1000 → (∀ e ∈ l, EvOk e) → ∀ es, PyData.tuple l = .tuple es → es.length ≤ 1000 ∧ ∀ e ∈ es, EvOk e := fun h1 h2 es e => by
    injection e with e
    rw [← e]
    exact ⟨h1, h2⟩
  -- good
  have hev' := hev
  obtain ⟨la, lxs, rfl, ha1, ha2⟩ := hev
  have hlx := dps_len ha2
  refine ⟨_, rfl, la, lxs, rfl, .inl ⟨SqL.of (offS_some ha1).2, fun ga hga => ?_⟩⟩
  have s5 := same_new (o := .tup lxs) hga
  have R5 := Rn.of W4.t s5
  have E5 : ES K tp ca fv fd L (.ref la) (.ref ga) ds (upd H4 ga (.tup lxs)) := ⟨W4.rn R5, hev'.go (goT R5), .tup (sqt_offS upd_same (W4.t.inD.new hga)) (dps_same (goT R5) ha2)⟩
  revert E5 R5
  generalize upd H4 ga (.tup lxs) = H5
  intro R5 E5
  have R25 := R2.trans (R3.trans (R4.trans R5))
  -- the four things
  refine ⟨tp, _, ds, rfl, E5.w.t.inD, E5.g, by omega, fun tv H6 s6 ht => ?_⟩
  have R6 := Rn.of E5.w.t s6
  have E6 := E5.rn R6
  obtain ⟨ta, txs, rfl, hts, htx, htl⟩ := dp_tup ht
  refine ⟨ta, rfl, ⟨_, same_sqt offS_same hts⟩, for_tup (K := K) (a := ta) (xs := txs) (fun i σ H' => Same H6 H' ∧ ∃ o7 o8, σ = stE tp fv L s0 none (.ref la) (.ref ga) o7 o8 none none none none) ⟨same_refl, _, _, rfl⟩ (fun i σ H' _ hh => same_sqt hh.1 (same_sqt offS_same hts)) ?_ ?_⟩
  · rintro j y σ H7 hj ⟨s7, o7, o8, rfl⟩
    obtain ⟨d, hd, hy⟩ := dps_at htx hj
    have hall : ∃ l, d = .tuple l ∧ l.length ≤ 1000 ∧ (∀ e ∈ l, EvOk e) ∧ evsOf (dtOf fd) (.tuple l) = true := by
      have hm := List.mem_of_getElem? hd
      simp only [List.mem_cons, List.not_mem_nil, or_false] at hm
      rcases hm with rfl | rfl | rfl | rfl
      · exact ⟨_, rfl, Nat.zero_le _, (fun e he => nomatch he), rfl⟩
      · exact ⟨_, rfl, by omega, hok, evsOf_true hgood hnd⟩
      · refine ⟨_, rfl, by rw [List.length_append]; show 1 + _ ≤ 1000; omega, fun e he => ?_, evsOf_true (fun e he => ?_) (by rw [nos_app]; exact hnd)⟩
        · rcases List.mem_append.mp he with he | he
          · rw [List.mem_singleton.mp he]
            exact depart_ok
          · exact hok e he
        · rcases List.mem_append.mp he with he | he
          · rw [List.mem_singleton.mp he]
            exact depart_good
          · exact hgood e he
      · refine ⟨_, rfl, by rw [List.length_append]; show _ + 2 ≤ 1000; omega, fun e he => ?_, evsOf_true (fun e he => ?_) (by rw [nos_app]; show (nos ds ++ []).Nodup; rw [List.append_nil]; exact hnd)⟩
        · rcases List.mem_append.mp he with he | he
          · exact hok e he
          · simp only [List.mem_cons, List.not_mem_nil, or_false] at he
            rcases he with rfl | rfl <;> exact depart_ok
        · rcases List.mem_append.mp he with he | he
          · exact hgood e he
          · simp only [List.mem_cons, List.not_mem_nil, or_false] at he
            rcases he with rfl | rfl <;> exact depart_good
    obtain ⟨l, rfl, hl1, hl2, hl3⟩ := hall
    refine ⟨(by show 2 ≤ sizeLine; decide), fun wp hwp => ?_⟩
    have sw := same_new (o := .tup (wordsE.map V.str)) hwp
    have hwt : SqT K (upd H7 wp (.tup (wordsE.map V.str))) wp (wordsE.map V.str) := SqT.of upd_same
    refine ⟨wp, rfl, ⟨_, hwt⟩, for_tup (K := K) (a := wp) (xs := wordsE.map V.str) (fun i σ H' => Same (upd H7 wp (.tup (wordsE.map V.str))) H' ∧ ∃ o8, σ = stE tp fv L s0 none (.ref la) (.ref ga) (some y) o8 none none none none) ⟨same_refl, _, rfl⟩ (fun i σ H' _ hh => same_sqt hh.1 hwt) ?_ ?_⟩
    · rintro j2 y2 σ H8 hj2 ⟨s8, o8', rfl⟩
      rw [List.getElem?_map] at hj2
      obtain ⟨z, hz, rfl⟩ := Option.map_eq_some_iff.mp hj2
      have s78 := (s7.trans sw).trans s8
      refine ⟨_, rfl, _, rfl, _, rfl, ?_⟩
      refine last_non ?_
      refine ask_events (wordsE_in (List.mem_of_getElem? hz)) (dp_same s78 E6.w.on) hf (dp_same s78 (dp_onS hy)) (okOf hl1 hl2) fun H9 s9 => ⟨_, _, rfl, rfl, _, rfl, ?_⟩
      rw [hl3]
      exact iteF ⟨s8.trans s9, _, rfl⟩
    · rintro σ H8 ⟨s8, o8', rfl⟩
      exact ⟨(s7.trans sw).trans s8, _, _, rfl⟩
  rintro σ H7 ⟨s7, o7, o8, rfl⟩
  have R7 := Rn.of E6.w.t s7
  have E7 := E6.rn R7
  -- a list, None
  refine ⟨_, rfl, _, rfl, ?_⟩
  refine last_non ?_
  refine ask_events (d := .list ds) (.inl rfl) E7.w.on hf (dp_onS (dp_lval E7.e)) (fun es e => nomatch e) fun H8 s8 => ⟨_, _, rfl, rfl, _, rfl, ?_⟩
  refine iteF ?_
  have R8 := Rn.of E7.w.t s8
  have E8 := E7.rn R8
  refine ⟨_, rfl, ?_⟩
  refine last_non2 ?_
  refine ask_events (d := .none) (.inl rfl) E8.w.on hf .non (fun es e => nomatch e) fun H9 s9 => ⟨_, _, rfl, rfl, _, rfl, ?_⟩
  refine iteF ?_
  have R9 := Rn.of E8.w.t s9
  have E9 := E8.rn R9
  have R79 := R6.trans (R7.trans (R8.trans R9))
  -- way
  have hq0 : (lens fd)[0]? = some ((lens fd)[0]'(by omega)) := List.getElem?_eq_getElem (by omega)
  generalize hN : (lens fd)[0]'(by omega) = N at hq0
  have hNh := lens_ht hq0
  have hfh := hf.ht
  refine ⟨tp, L, N + 1, s0, _, E9.w.t.inD, rfl, rfl, E9.w.l, deepsV_at hq0, by omega, (fun _ => rfl), fun wv H10 s10 hw => ?_⟩
  have hway : IsEv fd (s0 + 25) (pushD (s0 + 25) 0 (List.replicate (N + 1) [])) := .inr ⟨0, _, N, rfl, hq0, List.length_replicate, fun r hr => (by rw [(List.mem_replicate.mp hr).2]; exact ⟨Nat.zero_le _, fun i hi => nomatch hi⟩), by omega⟩
  have wgood := isev_good hway (by omega) (by omega)
  have wok := isev_ok hway
  have wno : nos [pushD (s0 + 25) 0 (List.replicate (N + 1) [])] = [s0 + 25] := by
    unfold nos
    rw [List.filterMap_cons]
    have : pushNo (pushD (s0 + 25) 0 (List.replicate (N + 1) [])) = some (s0 + 25) := by
      show (if PyData.eqv (.str "push") (.str "push") = true then some (s0 + 25) else none) = _
      rw [if_pos (by decide +kernel)]
    rw [this]
    rfl
  generalize pushD (s0 + 25) 0 (List.replicate (N + 1) []) = wd at hw hway wgood wok wno
  have R10 := Rn.of E9.w.t s10
  have E10 := E9.rn R10
  obtain ⟨la', lxs', e1, hb1, hb2⟩ := E10.e
  injection e1 with e1
  subst e1
  have hlx2 := dps_len hb2
  have eL : ((lxs'.length : Nat) : Int) + 1 = ((ds.length + 1 : Nat) : Int) := by omega
  refine ⟨_, rfl, _, rfl, la, lxs', rfl, .inl (SqL.of (offS_some hb1).2), _, _, rfl, rfl, tp, ca, ds.length + 1, congrArg (fun z => [V.ref tp, V.int z]) eL, E10.w.t, by omega, by omega, fun H11 r hr11 R11 => ?_⟩
  have E11 := E10.rn R11
  have hw11 := dp_same (goT R11) hw
  have hsplit : nos (ds.take r) ++ nos (ds.drop r) = nos ds := by rw [← nos_app, List.take_append_drop]
  have hwn : s0 + 25 ∉ nos ds := fun z => by
    have := hrg _ z
    omega
  have memP : ∀ {p : PyData → Prop} {l : List PyData}, p wd → (∀ e ∈ ds, p e) → p departD → (∀ e ∈ l, e ∈ ds ∨ e = wd ∨ e = departD) → ∀ e ∈ l, p e := fun h1 h2 h3 h4 e he => by
    rcases h4 e he with h | h | h
    · exact h2 e h
    · rw [h]; exact h1
    · rw [h]; exact h3
  refine ⟨_, rfl, tp, _, wv, ds, wd, r, rfl, rfl, rfl, E11.w.t.inD, E11.g, hw11, by omega, fun v H12 s12 hv => ?_⟩
  refine last_non ?_
  have m1 : ∀ e ∈ ds.take r ++ [wd] ++ ds.drop r, e ∈ ds ∨ e = wd ∨ e = departD := fun e he => by
    rcases List.mem_append.mp he with he | he
    · rcases List.mem_append.mp he with he | he
      · exact .inl (List.mem_of_mem_take he)
      · exact .inr (.inl (List.mem_singleton.mp he))
    · exact .inl (List.mem_of_mem_drop he)
  refine ask_events (.inl rfl) (dp_same s12 E11.w.on) hf (dp_onS hv) (okOf (by rw [List.length_append, List.length_append, List.length_take, List.length_drop]; show min r _ + 1 + _ ≤ 1000; omega) (memP wok hok depart_ok m1)) fun H13 s13 => ⟨_, _, rfl, rfl, _, rfl, ?_⟩
  rw [evsOf_true (memP wgood hgood depart_good m1) (by
    rw [nos_app, nos_app, wno]
    exact nodup_mid (by rw [hsplit]; exact hnd) (by rw [hsplit]; exact hwn))]
  refine iteF ?_
  have R13 := Rn.of E11.w.t (s12.trans s13)
  have E13 := E11.rn R13
  have hw13 := dp_same (goT R13) hw11
  refine ⟨_, rfl, tp, _, wv, ds, wd, r, rfl, rfl, rfl, E13.w.t.inD, E13.g, hw13, by omega, fun v2 H14 s14 hv2 => ?_⟩
  refine last_non ?_
  have m2 : ∀ e ∈ ds.take r ++ [wd, departD] ++ ds.drop r ++ [wd], e ∈ ds ∨ e = wd ∨ e = departD := fun e he => by
    rcases List.mem_append.mp he with he | he
    · rcases List.mem_append.mp he with he | he
      · rcases List.mem_append.mp he with he | he
        · exact .inl (List.mem_of_mem_take he)
        · simp only [List.mem_cons, List.not_mem_nil, or_false] at he
          exact .inr he
      · exact .inl (List.mem_of_mem_drop he)
    · exact .inr (.inl (List.mem_singleton.mp he))
  refine ask_events (.inl rfl) (dp_same s14 E13.w.on) hf (dp_onS hv2) (okOf (by rw [List.length_append, List.length_append, List.length_append, List.length_take, List.length_drop]; show min r _ + 2 + _ + 1 ≤ 1000; omega) (memP wok hok depart_ok m2)) fun H15 s15 => ⟨_, _, rfl, rfl, _, rfl, ?_⟩
  rw [evsOf_dup (by
    have e2 : nos [wd, departD] = [s0 + 25] := by
      have := nos_app [wd] [departD]
      rw [wno] at this
      exact this
    rw [nos_app, nos_app, nos_app, wno, e2]
    exact dup_two)]
  refine iteF ?_
  have R15 := Rn.of E13.w.t (s14.trans s15)
  have E15 := E13.rn R15
  -- the loop
  have eM : (if ((lxs'.length : Nat) : Int) < (6 : Int) then ((lxs'.length : Nat) : Int) else (6 : Int)) = ((min 6 lxs'.length : Nat) : Int) := minI 6 lxs'.length
  have hs15 : SqL K H15 la lxs' := SqL.of (offS_some ((goT (R11.trans (R13.trans R15))) _ _ hb1)).2
  refine ⟨_, rfl, la, lxs', rfl, .inl hs15, _, _, rfl, _, rfl, ?_, ?_, ?_⟩
  · rw [eM]; omega
  · rw [eM]; omega
  rw [eM, Int.toNat_natCast]
  refine for_range (lo := 0) (n := min 6 lxs'.length) (fun i σ H' => Rn K tp ca H15 H' ∧ ∃ o4 o10 o11 o12, σ = stE tp fv L s0 o4 (.ref la) (.ref ga) o7 o8 (some wv) o10 o11 o12) ⟨Rn.refl E15.w.t, _, _, _, _, rfl⟩ ?_ ?_
  · rintro i σ H16 hi ⟨R16, o4, o10, o11, o12, rfl⟩
    have E16 := E15.rn R16
    have hs16 : SqL K H16 la lxs' := SqL.of (offS_some ((goT (R11.trans (R13.trans (R15.trans R16)))) _ _ hb1)).2
    refine ⟨_, rfl, _, rfl, la, lxs', rfl, .inl hs16, tp, ca, ds.length, by rw [hlx2]; rfl, E16.w.t, by omega, by omega, fun H17 r2 hr17 R17 => ?_⟩
    have E17 := E16.rn R17
    have hdr : ds[r2]? = some (ds[r2]'hr17) := List.getElem?_eq_getElem hr17
    have hise := hseq r2 _ hdr
    generalize hde : ds[r2]'hr17 = de at hdr hise
    refine ⟨_, rfl, by decide, by decide, for_range (lo := 0) (n := 2) (fun i2 σ H' => Rn K tp ca H17 H' ∧ ∃ o11' o12', σ = stE tp fv L s0 (some (.int (0 + ((i : Nat) : Int)))) (.ref la) (.ref ga) o7 o8 (some wv) (some (.int (r2 : Nat))) o11' o12') ⟨Rn.refl E17.w.t, _, _, rfl⟩ ?_ ?_⟩
    · rintro i2 σ H18 hi2 ⟨R18, o11', o12', rfl⟩
      have E18 := E17.rn R18
      obtain ⟨la'', lxs'', e1, hc1, hc2⟩ := E18.e
      injection e1 with e1
      subst e1
      have hlx3 := dps_len hc2
      have hx : lxs''[r2]? = some (lxs''[r2]'(by omega)) := List.getElem?_eq_getElem (by omega)
      obtain ⟨de', hde1, hdev⟩ := dps_at hc2 hx
      rw [hdr] at hde1
      obtain rfl := Option.some.inj hde1
      have hlog : (s0 + (r2 : Nat)).natAbs.log2 < 1920 := by
        by_cases z : (s0 + (r2 : Nat)).natAbs = 0
        · rw [z]
          decide
        · refine (Nat.log2_lt z).mpr (Nat.lt_of_lt_of_le (?_ : _ < 2 ^ 60) (Nat.pow_le_pow_right (by decide) (by decide)))
          have : packB = ((2 ^ 60 : Nat) : Int) := by decide +kernel
          omega
      refine ⟨_, rfl, _, rfl, _, rfl, _, rfl, la, lxs'', r2, _, rfl, rfl, SqL.of (offS_some hc1).2, atI_nat hx, tp, ca, L, fd, _, _, _, rfl, E18.w.t, hf, E18.w.l, E18.w.n, hdev, hise, hlog, fun H19 bv bd R19 hbad hbv => ?_⟩
      have E19 := E18.rn R19
      refine ⟨_, rfl, tp, _, bv, ds, bd, r2, rfl, rfl, rfl, E19.w.t.inD, E19.g, hbv, by omega, fun v3 H20 s20 hv3 => ?_⟩
      refine last_non ?_
      refine ask_events (.inl rfl) (dp_same s20 E19.w.on) hf (dp_onS hv3) (okOf (by rw [List.length_append, List.length_append, List.length_take, List.length_drop]; show min r2 _ + 1 + _ ≤ 1000; omega) (fun e he => by
        rcases List.mem_append.mp he with he | he
        · rcases List.mem_append.mp he with he | he
          · exact hok e (List.mem_of_mem_take he)
          · rw [List.mem_singleton.mp he]
            exact hbad.2
        · exact hok e (List.mem_of_mem_drop he))) fun H21 s21 => ⟨_, _, rfl, rfl, _, rfl, ?_⟩
      rw [evsOf_bad (e := bd) (by simp) hbad.1]
      exact iteF ⟨R18.trans (R19.same (s20.trans s21)), _, _, rfl⟩
    · rintro σ H18 ⟨R18, o11', o12', rfl⟩
      have E18 := E17.rn R18
      obtain ⟨la'', lxs'', e1, hc1, hc2⟩ := E18.e
      injection e1 with e1
      subst e1
      have hlx3 := dps_len hc2
      have hx : lxs''[r2]? = some (lxs''[r2]'(by omega)) := List.getElem?_eq_getElem (by omega)
      obtain ⟨de', hde1, hdev⟩ := dps_at hc2 hx
      rw [hdr] at hde1
      obtain rfl := Option.some.inj hde1
      have hfin : ∀ H', Rn K tp ca H18 H' → (Rn K tp ca H15 H' ∧ ∃ o4 o10 o11 o12, stE tp fv L s0 (some (.int (0 + ((i : Nat) : Int)))) (.ref la) (.ref ga) o7 o8 (some wv) (some (.int (r2 : Nat))) o11' o12' = stE tp fv L s0 o4 (.ref la) (.ref ga) o7 o8 (some wv) o10 o11 o12) := fun H' R => ⟨R16.trans (R17.trans (R18.trans R)), _, _, _, _, rfl⟩
      have htl : ∃ el, de = .tuple el := by
        rcases hise with rfl | ⟨_, _, _, rfl, _⟩
        · exact ⟨_, rfl⟩
        · exact ⟨_, rfl⟩
      obtain ⟨el, rfl⟩ := htl
      obtain ⟨da, dxs, hda, hds1, hds2, hdsl⟩ := dp_tup hdev
      rw [hda] at hx
      refine ⟨_, rfl, _, rfl, la, lxs'', r2, _, rfl, rfl, SqL.of (offS_some hc1).2, atI_nat hx, da, dxs, rfl, .inr (same_sqt offS_same hds1), rfl, _, rfl, ?_⟩
      refine ite2 (fun c => ?_) (fun c => iteF (hfin H18 (Rn.refl E18.w.t)))
      have c2 := of_decide_eq_true c
      injection c2 with c2
      rw [hdsl] at c2
      have hpno : pushNo (.tuple el) = some (s0 + (r2 : Nat)) := by
        rcases hise with e | ⟨q, rs, m, e, _⟩
        · injection e with e
          rw [e] at c2
          exact absurd c2 (by decide)
        · rw [e]
          show (if PyData.eqv (.str "push") (.str "push") = true then some (s0 + (r2 : Nat)) else none) = _
          rw [if_pos (by decide +kernel)]
      refine ⟨_, rfl, tp, _, _, ds, _, r2, rfl, rfl, rfl, E18.w.t.inD, E18.g, E18.e, hdr, by omega, fun v3 H20 s20 hv3 => ?_⟩
      refine last_non ?_
      refine ask_events (.inl rfl) (dp_same s20 E18.w.on) hf (dp_onS hv3) (okOf (by rw [List.length_append]; show _ + 2 ≤ 1000; omega) (fun e he => by
        rcases List.mem_append.mp he with he | he
        · exact hok e he
        · simp only [List.mem_cons, List.not_mem_nil, or_false] at he
          rcases he with rfl | rfl
          · exact depart_ok
          · exact hok _ (List.mem_of_getElem? hdr))) fun H21 s21 => ⟨_, _, rfl, rfl, _, rfl, ?_⟩
      rw [evsOf_dup (by
        have e3 : nos [departD, PyData.tuple el] = [s0 + (r2 : Nat)] := by
          have h1 := nos_app [departD] [PyData.tuple el]
          have h2 : nos [PyData.tuple el] = [s0 + (r2 : Nat)] := by
            unfold nos
            rw [List.filterMap_cons, hpno]
            rfl
          rw [h2] at h1
          exact h1
        rw [nos_app, e3]
        intro hn
        have hin : s0 + (r2 : Nat) ∈ nos ds := List.mem_filterMap.mpr ⟨_, List.mem_of_getElem? hdr, hpno⟩
        exact (List.nodup_append.mp hn).2.2 _ hin _ (List.mem_singleton.mpr rfl) rfl)]
      exact iteF (hfin H21 (Rn.of E18.w.t (s20.trans s21)))
  rintro σ H16 ⟨R16, o4, o10, o11, o12, rfl⟩
  have E16 := E15.rn R16
  have Rfin := R25.trans (R79.trans (R10.trans (R11.trans (R13.trans (R15.trans R16)))))
  refine ⟨_, rfl, tp, ca, rfl, E16.w.t, fun H17 bv bd R17 hb f => ?_⟩
  have E17 := E16.rn R17
  refine ⟨_, rfl, ?_⟩
  refine last_non ?_
  refine ask_badfE (.inr rfl) f.dp hb (dp_onS E17.g) okE fun v H18 s18 f2 => ?_
  refine fun u H19 s19 hu => ⟨_, _, _, rfl, dp_same s19 f2.dp, hu, plain_refd, fun H20 s20 => ⟨_, rfl, iteF ?_⟩⟩
  have R20 := Rn.of E17.w.t ((s18.trans s19).trans s20)
  have E20 := E17.rn R20
  refine ⟨_, rfl, _, rfl, ?_⟩
  refine last_non ?_
  refine ask_events (.inl rfl) E20.w.on hf (dp_onS E20.g) okE fun H21 s21 => ⟨_, _, rfl, rfl, ?_⟩
  rw [evsOf_true hgood hnd]
  exact q0 H21 (Rfin.trans (R17.trans (R20.same s21)))
end
end K23
set_option Elab.async false
set_option linter.all false
set_option maxRecDepth 100000
set_option maxHeartbeats 8000000
namespace K23
open PySem PySem.Spec PyProof.Rows L2 Dt K23S
/-! ### law -/
def spLaw (K : PySem.W.Frag) : Sp := fun vs H Q _ => ∃ (a : Addr) (ns : List Int), vs = [.ref a] ∧ SqL K H a (ns.map V.int) ∧ ns.length ≤ 63 ∧ ∀ H', Q (.bl true) H'
def tLn (K : PySem.W.Frag) : TS := fun D σ H => ∃ (tp ca a : Addr), Tape K H tp ca ∧ σ[1]? = some (some (.ref tp)) ∧ σ[3]? = some (some (.ref a)) ∧ ∀ H', Rn K tp ca H H' → D.nx σ H'
section
variable {P : Program} {w : World} {K : PySem.W.Frag} {mg : Str → Option Value} {base : Heap} {C U fI fG B S PA : Addr}
theorem ok_law {fL : Addr} {fdL : FuncData} (F : Fun K "law" "law" s_law fL fdL) (T : Txt K mg) (GTape : CalX P w K mg base CX0 1 "_law_tape" ["script"] (spTape K)) (GDraw : CalX P w K mg base CX0 1 "_law_draw" ["tape", "many"] (spDraw K)) (GPuts : CalX P w K mg base CX0 26 "_law_puts" ["tape"] (spPuts K)) (GLong : CalX P w K mg base CX0 8 "_law_long" ["tape"] (spLong K))
    (GKinds : CalX P w K mg base CX0 26 "_law_kinds" ["tape", "line"] (spKinds K)) (GWays : CalX P w K mg base CX0 26 "_law_ways" ["tape"] (spWays K)) (GEvents : CalX P w K mg base CX0 26 "_law_events" ["tape"] (spWays K)) : FnOk P w K mg base CX0 27 fL fdL ["script"] (spLaw K) := by
  refine F.ok sc_law (fun vs H Q E h => ?_) (fun cdv A outer s H vs Q E hr h => ?_)
  · obtain ⟨a, ns, rfl, _⟩ := h
    rfl
  obtain ⟨a, ns, rfl, ha, hl, q⟩ := h
  refine ⟨_, (pss_cons (ps_set (i := 1) sc_law.nd rfl (.inl rfl) (pe_c0 GTape hr (by decide) rfl (pa_cons (pv 0) pa_nil))) 
    (pss_cons (ps_set (i := 2) sc_law.nd rfl (.inl rfl) (pe_c0 GDraw hr (by decide) rfl (pa_cons (pv 1) (pa_cons pe_int pa_nil)))) 
    (pss_cons (ps_set (i := 3) sc_law.nd rfl (.inl rfl) (pe_c0 GPuts hr (by decide) rfl (pa_cons (pv 1) pa_nil))) 
    (pss_cons (ps_conv (t' := tLn K) (ps_if (PW.pt (pw_or (pt_cmpR op_isN (pv 3) pe_non (nomark _)) (pw_or1 (PW.pt (pw_and (pt_cmpR op_eq (pe_c0 GDraw hr (by decide) rfl (pa_cons (pv 1) (pa_cons pe_int pa_nil))) pe_int (nomark _)) (pw_and1 (pt_not (pt_val (pe_c0 GLong hr (by decide) rfl (pa_cons (pv 1) pa_nil)))))))))) 
      (pss_one (ps_ret pe_bl)) pss_nil) (by
        rintro D σ H ⟨tp, ca, a, hT, h1, h3, k⟩
        refine ⟨_, h3, ?_⟩
        refine ⟨rfl, _, rfl, ?_⟩
        refine iteF ?_
        refine ⟨_, h1, tp, ca, 8, rfl, hT, by decide, by decide, fun H1 r hr1 R1 => ⟨rfl, _, rfl, ?_⟩⟩
        refine ite2 (fun _ => ?_) (fun _ => iteF (k H1 R1))
        exact ⟨_, h1, tp, ca, rfl, R1.b, fun H2 R2 => ⟨_, rfl, iteF (k H2 (R1.trans R2))⟩⟩)) 
    (pss_cons (ps_if (pt_cmpR op_eq (pv 2) pe_int (nomark _)) 
      (pss_one (ps_ret (pe_c0 GKinds hr (by decide) rfl (pa_cons (pv 1) (pa_cons (pv 3) pa_nil))))) pss_nil) 
    (pss_cons (ps_if (pt_cmpR op_eq (pv 2) pe_int (nomark _)) 
      (pss_one (ps_ret (pe_c0 GWays hr (by decide) rfl (pa_cons (pv 1) pa_nil)))) pss_nil) 
    (pss_one (ps_ret (pe_c0 GEvents hr (by decide) rfl (pa_cons (pv 1) pa_nil)))))))))), ?_⟩

  refine ⟨_, rfl, a, ns, rfl, ha, hl, fun H1 tp ca s1 hT htp => ?_⟩
  refine ⟨_, rfl, tp, ca, 3, rfl, hT, by decide, by decide, fun H2 r hr2 R2 => ?_⟩
  refine ⟨_, rfl, tp, ca, rfl, R2.b, fun H3 line es R3 hok h50 hline => ?_⟩
  rw [← off_del] at hline
  obtain ⟨la, lxs, rfl, _, _, _⟩ := dp_tup hline
  refine ⟨tp, ca, la, R3.b, rfl, rfl, fun H4 R4 => ?_⟩
  have k4 : KS K tp ca (.ref la) es H4 := ⟨R4.b, dp_same (goT R4) hline, hok, h50⟩
  refine ⟨_, rfl, rfl, _, rfl, ?_⟩
  refine ite2 (fun _ => ?_) (fun _ => ?_)
  · exact ⟨_, rfl, _, rfl, tp, ca, _, es, rfl, k4, fun H5 _ => q H5⟩
  refine ⟨_, rfl, rfl, _, rfl, ?_⟩
  refine ite2 (fun _ => ?_) (fun _ => ?_)
  · exact ⟨_, rfl, tp, ca, rfl, R4.b, fun H5 _ => q H5⟩
  · exact ⟨_, rfl, tp, ca, rfl, R4.b, fun H5 _ => q H5⟩
end
end K23
set_option Elab.async false
set_option linter.all false
set_option maxRecDepth 100000
set_option maxHeartbeats 8000000
namespace K23
open PySem PySem.Spec PyProof.Rows L2 Dt
section
variable {K : PySem.W.Frag} {h : Heap} {mg : Str → Option Value}
theorem defAt_of (X : K.In h) (G : h.Ns mainGlobals mg) {x : Str} {st : Stmt} {ps : List Str} {f : Addr} {oc kV doc pm cdv ct : Value} {od an : Option Addr} {osl : Array (Option Value)}
    (hb : ∀ (kV doc pm : Value) (an : Option Addr) (cdv ct : Value) (us : List Value), us.length = ps.length → bindArgs (PySem.W.fnOf x x (defArgs st) (defBody st) (defScope st) .none kV doc pm an cdv ct) ⟨us, []⟩ = pure (ps.zip us))
    (a : PySem.W.nsIn K mainGlobals x = some (some (.ref f))) (l : K.lookup f = some ⟨oc, od, .func (PySem.W.fnOf x x (defArgs st) (defBody st) (defScope st) .none kV doc pm an cdv ct), osl⟩) (c : PySem.W.codeIn K cdv x = true) (k : PySem.W.keepIn K (.ref f) = true) : DefAt K mg x st ps :=
  ⟨f, _, fun_mk l c k, PySem.W.mg_of X G a, (fun_mk l c k).binds hb⟩
theorem kwAt_of (X : K.In h) (G : h.Ns mainGlobals mg) {x : Str} {st : Stmt} {ps ks : List Str} {g : {α : Type} → List α → List α} {f : Addr} {oc kV doc pm cdv ct : Value} {od an : Option Addr} {osl : Array (Option Value)}
    (hk : ∀ (kV doc pm : Value) (an : Option Addr) (cdv ct : Value) (s : Shared) (ws : List Value), ws.length = ks.length → BindsTo s (PySem.W.fnOf x x (defArgs st) (defBody st) (defScope st) .none kV doc pm an cdv ct) ⟨[], ks.zip ws⟩ (ps.zip (g ws)))
    (hr : ∀ {zs : List V} {ws : List Value}, Vals zs ws → Vals (g zs) (g ws))
    (a : PySem.W.nsIn K mainGlobals x = some (some (.ref f))) (l : K.lookup f = some ⟨oc, od, .func (PySem.W.fnOf x x (defArgs st) (defBody st) (defScope st) .none kV doc pm an cdv ct), osl⟩) : KwAt K mg x ps ks g :=
  ⟨f, _, PySem.W.mg_of X G a, ⟨_, _, _, l⟩, ⟨fun s ws hw => hk _ _ _ _ _ _ s ws hw, hr⟩⟩
end
theorem da_is_integer {K : PySem.W.Frag} {h : Heap} {mg : Str → Option Value} (X : K.In h) (G : h.Ns mainGlobals mg) {f : Addr} {oc kV doc pm cdv ct : Value} {od an : Option Addr} {osl : Array (Option Value)}
    (a : PySem.W.nsIn K mainGlobals "is_integer" = some (some (.ref f))) (l : K.lookup f = some ⟨oc, od, .func (PySem.W.fnOf "is_integer" "is_integer" (defArgs s_is_integer) (defBody s_is_integer) (defScope s_is_integer) .none kV doc pm an cdv ct), osl⟩) (c : PySem.W.codeIn K cdv "is_integer" = true) (k : PySem.W.keepIn K (.ref f) = true) : DefAt K mg "is_integer" s_is_integer ["thing"] :=
  defAt_of X G (fun _ _ _ _ _ _ us hl => match us, hl with | [_], _ => rfl) a l c k
theorem da_is_number {K : PySem.W.Frag} {h : Heap} {mg : Str → Option Value} (X : K.In h) (G : h.Ns mainGlobals mg) {f : Addr} {oc kV doc pm cdv ct : Value} {od an : Option Addr} {osl : Array (Option Value)}
    (a : PySem.W.nsIn K mainGlobals "is_number" = some (some (.ref f))) (l : K.lookup f = some ⟨oc, od, .func (PySem.W.fnOf "is_number" "is_number" (defArgs s_is_number) (defBody s_is_number) (defScope s_is_number) .none kV doc pm an cdv ct), osl⟩) (c : PySem.W.codeIn K cdv "is_number" = true) (k : PySem.W.keepIn K (.ref f) = true) : DefAt K mg "is_number" s_is_number ["thing"] :=
  defAt_of X G (fun _ _ _ _ _ _ us hl => match us, hl with | [_], _ => rfl) a l c k
theorem da_is_below {K : PySem.W.Frag} {h : Heap} {mg : Str → Option Value} (X : K.In h) (G : h.Ns mainGlobals mg) {f : Addr} {oc kV doc pm cdv ct : Value} {od an : Option Addr} {osl : Array (Option Value)}
    (a : PySem.W.nsIn K mainGlobals "is_below" = some (some (.ref f))) (l : K.lookup f = some ⟨oc, od, .func (PySem.W.fnOf "is_below" "is_below" (defArgs s_is_below) (defBody s_is_below) (defScope s_is_below) .none kV doc pm an cdv ct), osl⟩) (c : PySem.W.codeIn K cdv "is_below" = true) (k : PySem.W.keepIn K (.ref f) = true) : DefAt K mg "is_below" s_is_below ["thing", "bound"] :=
  defAt_of X G (fun _ _ _ _ _ _ us hl => match us, hl with | [_, _], _ => rfl) a l c k
theorem da_need {K : PySem.W.Frag} {h : Heap} {mg : Str → Option Value} (X : K.In h) (G : h.Ns mainGlobals mg) {f : Addr} {oc kV doc pm cdv ct : Value} {od an : Option Addr} {osl : Array (Option Value)}
    (a : PySem.W.nsIn K mainGlobals "need" = some (some (.ref f))) (l : K.lookup f = some ⟨oc, od, .func (PySem.W.fnOf "need" "need" (defArgs s_need) (defBody s_need) (defScope s_need) .none kV doc pm an cdv ct), osl⟩) (c : PySem.W.codeIn K cdv "need" = true) (k : PySem.W.keepIn K (.ref f) = true) : DefAt K mg "need" s_need ["fits", "word"] :=
  defAt_of X G (fun _ _ _ _ _ _ us hl => match us, hl with | [_, _], _ => rfl) a l c k
theorem da_copied {K : PySem.W.Frag} {h : Heap} {mg : Str → Option Value} (X : K.In h) (G : h.Ns mainGlobals mg) {f : Addr} {oc kV doc pm cdv ct : Value} {od an : Option Addr} {osl : Array (Option Value)}
    (a : PySem.W.nsIn K mainGlobals "copied" = some (some (.ref f))) (l : K.lookup f = some ⟨oc, od, .func (PySem.W.fnOf "copied" "copied" (defArgs s_copied) (defBody s_copied) (defScope s_copied) .none kV doc pm an cdv ct), osl⟩) (c : PySem.W.codeIn K cdv "copied" = true) (k : PySem.W.keepIn K (.ref f) = true) : DefAt K mg "copied" s_copied ["thing"] :=
  defAt_of X G (fun _ _ _ _ _ _ us hl => match us, hl with | [_], _ => rfl) a l c k
theorem da_is_shape {K : PySem.W.Frag} {h : Heap} {mg : Str → Option Value} (X : K.In h) (G : h.Ns mainGlobals mg) {f : Addr} {oc kV doc pm cdv ct : Value} {od an : Option Addr} {osl : Array (Option Value)}
    (a : PySem.W.nsIn K mainGlobals "is_shape" = some (some (.ref f))) (l : K.lookup f = some ⟨oc, od, .func (PySem.W.fnOf "is_shape" "is_shape" (defArgs s_is_shape) (defBody s_is_shape) (defScope s_is_shape) .none kV doc pm an cdv ct), osl⟩) (c : PySem.W.codeIn K cdv "is_shape" = true) (k : PySem.W.keepIn K (.ref f) = true) : DefAt K mg "is_shape" s_is_shape ["thing"] :=
  defAt_of X G (fun _ _ _ _ _ _ us hl => match us, hl with | [_], _ => rfl) a l c k
theorem da_has_forks_of {K : PySem.W.Frag} {h : Heap} {mg : Str → Option Value} (X : K.In h) (G : h.Ns mainGlobals mg) {f : Addr} {oc kV doc pm cdv ct : Value} {od an : Option Addr} {osl : Array (Option Value)}
    (a : PySem.W.nsIn K mainGlobals "has_forks_of" = some (some (.ref f))) (l : K.lookup f = some ⟨oc, od, .func (PySem.W.fnOf "has_forks_of" "has_forks_of" (defArgs s_has_forks_of) (defBody s_has_forks_of) (defScope s_has_forks_of) .none kV doc pm an cdv ct), osl⟩) (c : PySem.W.codeIn K cdv "has_forks_of" = true) (k : PySem.W.keepIn K (.ref f) = true) : DefAt K mg "has_forks_of" s_has_forks_of ["thing", "least"] :=
  defAt_of X G (fun _ _ _ _ _ _ us hl => match us, hl with | [_, _], _ => rfl) a l c k
theorem da_need_shape {K : PySem.W.Frag} {h : Heap} {mg : Str → Option Value} (X : K.In h) (G : h.Ns mainGlobals mg) {f : Addr} {oc kV doc pm cdv ct : Value} {od an : Option Addr} {osl : Array (Option Value)}
    (a : PySem.W.nsIn K mainGlobals "need_shape" = some (some (.ref f))) (l : K.lookup f = some ⟨oc, od, .func (PySem.W.fnOf "need_shape" "need_shape" (defArgs s_need_shape) (defBody s_need_shape) (defScope s_need_shape) .none kV doc pm an cdv ct), osl⟩) (c : PySem.W.codeIn K cdv "need_shape" = true) (k : PySem.W.keepIn K (.ref f) = true) : DefAt K mg "need_shape" s_need_shape ["form", "word"] :=
  defAt_of X G (fun _ _ _ _ _ _ us hl => match us, hl with | [_, _], _ => rfl) a l c k
theorem da_need_queue {K : PySem.W.Frag} {h : Heap} {mg : Str → Option Value} (X : K.In h) (G : h.Ns mainGlobals mg) {f : Addr} {oc kV doc pm cdv ct : Value} {od an : Option Addr} {osl : Array (Option Value)}
    (a : PySem.W.nsIn K mainGlobals "need_queue" = some (some (.ref f))) (l : K.lookup f = some ⟨oc, od, .func (PySem.W.fnOf "need_queue" "need_queue" (defArgs s_need_queue) (defBody s_need_queue) (defScope s_need_queue) .none kV doc pm an cdv ct), osl⟩) (c : PySem.W.codeIn K cdv "need_queue" = true) (k : PySem.W.keepIn K (.ref f) = true) : DefAt K mg "need_queue" s_need_queue ["tree", "queue", "word"] :=
  defAt_of X G (fun _ _ _ _ _ _ us hl => match us, hl with | [_, _, _], _ => rfl) a l c k
theorem da_shape_tree {K : PySem.W.Frag} {h : Heap} {mg : Str → Option Value} (X : K.In h) (G : h.Ns mainGlobals mg) {f : Addr} {oc kV doc pm cdv ct : Value} {od an : Option Addr} {osl : Array (Option Value)}
    (a : PySem.W.nsIn K mainGlobals "shape_tree" = some (some (.ref f))) (l : K.lookup f = some ⟨oc, od, .func (PySem.W.fnOf "shape_tree" "shape_tree" (defArgs s_shape_tree) (defBody s_shape_tree) (defScope s_shape_tree) .none kV doc pm an cdv ct), osl⟩) (c : PySem.W.codeIn K cdv "shape_tree" = true) (k : PySem.W.keepIn K (.ref f) = true) : DefAt K mg "shape_tree" s_shape_tree ["form", "word"] :=
  defAt_of X G (fun _ _ _ _ _ _ us hl => match us, hl with | [_, _], _ => rfl) a l c k
theorem da_is_rank {K : PySem.W.Frag} {h : Heap} {mg : Str → Option Value} (X : K.In h) (G : h.Ns mainGlobals mg) {f : Addr} {oc kV doc pm cdv ct : Value} {od an : Option Addr} {osl : Array (Option Value)}
    (a : PySem.W.nsIn K mainGlobals "is_rank" = some (some (.ref f))) (l : K.lookup f = some ⟨oc, od, .func (PySem.W.fnOf "is_rank" "is_rank" (defArgs s_is_rank) (defBody s_is_rank) (defScope s_is_rank) .none kV doc pm an cdv ct), osl⟩) (c : PySem.W.codeIn K cdv "is_rank" = true) (k : PySem.W.keepIn K (.ref f) = true) : (DefAt K mg "is_rank" s_is_rank ["thing"]) ∧ KwAt K mg "is_rank" ["thing"] ["thing"] idL :=
  ⟨defAt_of X G (fun _ _ _ _ _ _ us hl => match us, hl with | [_], _ => rfl) a l c k, kwAt_of X G (fun _ _ _ _ _ _ _ ws hl => match ws, hl with | [_], _ => .of_eq rfl) idL_rel a l⟩
theorem da_is_line {K : PySem.W.Frag} {h : Heap} {mg : Str → Option Value} (X : K.In h) (G : h.Ns mainGlobals mg) {f : Addr} {oc kV doc pm cdv ct : Value} {od an : Option Addr} {osl : Array (Option Value)}
    (a : PySem.W.nsIn K mainGlobals "is_line" = some (some (.ref f))) (l : K.lookup f = some ⟨oc, od, .func (PySem.W.fnOf "is_line" "is_line" (defArgs s_is_line) (defBody s_is_line) (defScope s_is_line) .none kV doc pm an cdv ct), osl⟩) (c : PySem.W.codeIn K cdv "is_line" = true) (k : PySem.W.keepIn K (.ref f) = true) : (DefAt K mg "is_line" s_is_line ["thing"]) ∧ KwAt K mg "is_line" ["thing"] ["thing"] idL :=
  ⟨defAt_of X G (fun _ _ _ _ _ _ us hl => match us, hl with | [_], _ => rfl) a l c k, kwAt_of X G (fun _ _ _ _ _ _ _ ws hl => match ws, hl with | [_], _ => .of_eq rfl) idL_rel a l⟩
theorem da_are_ranks {K : PySem.W.Frag} {h : Heap} {mg : Str → Option Value} (X : K.In h) (G : h.Ns mainGlobals mg) {f : Addr} {oc kV doc pm cdv ct : Value} {od an : Option Addr} {osl : Array (Option Value)}
    (a : PySem.W.nsIn K mainGlobals "are_ranks" = some (some (.ref f))) (l : K.lookup f = some ⟨oc, od, .func (PySem.W.fnOf "are_ranks" "are_ranks" (defArgs s_are_ranks) (defBody s_are_ranks) (defScope s_are_ranks) .none kV doc pm an cdv ct), osl⟩) (c : PySem.W.codeIn K cdv "are_ranks" = true) (k : PySem.W.keepIn K (.ref f) = true) : (DefAt K mg "are_ranks" s_are_ranks ["form", "queue", "thing"]) ∧ KwAt K mg "are_ranks" ["form", "queue", "thing"] ["thing", "queue", "form"] revL :=
  ⟨defAt_of X G (fun _ _ _ _ _ _ us hl => match us, hl with | [_, _, _], _ => rfl) a l c k, kwAt_of X G (fun _ _ _ _ _ _ _ ws hl => match ws, hl with | [_, _, _], _ => .of_eq rfl) revL_rel a l⟩
theorem da_fit_path {K : PySem.W.Frag} {h : Heap} {mg : Str → Option Value} (X : K.In h) (G : h.Ns mainGlobals mg) {f : Addr} {oc kV doc pm cdv ct : Value} {od an : Option Addr} {osl : Array (Option Value)}
    (a : PySem.W.nsIn K mainGlobals "fit_path" = some (some (.ref f))) (l : K.lookup f = some ⟨oc, od, .func (PySem.W.fnOf "fit_path" "fit_path" (defArgs s_fit_path) (defBody s_fit_path) (defScope s_fit_path) .none kV doc pm an cdv ct), osl⟩) (c : PySem.W.codeIn K cdv "fit_path" = true) (k : PySem.W.keepIn K (.ref f) = true) : DefAt K mg "fit_path" s_fit_path ["tree", "queue", "thing"] :=
  defAt_of X G (fun _ _ _ _ _ _ us hl => match us, hl with | [_, _, _], _ => rfl) a l c k
theorem da_is_way {K : PySem.W.Frag} {h : Heap} {mg : Str → Option Value} (X : K.In h) (G : h.Ns mainGlobals mg) {f : Addr} {oc kV doc pm cdv ct : Value} {od an : Option Addr} {osl : Array (Option Value)}
    (a : PySem.W.nsIn K mainGlobals "is_way" = some (some (.ref f))) (l : K.lookup f = some ⟨oc, od, .func (PySem.W.fnOf "is_way" "is_way" (defArgs s_is_way) (defBody s_is_way) (defScope s_is_way) .none kV doc pm an cdv ct), osl⟩) (c : PySem.W.codeIn K cdv "is_way" = true) (k : PySem.W.keepIn K (.ref f) = true) : DefAt K mg "is_way" s_is_way ["tree", "queue", "ranks"] :=
  defAt_of X G (fun _ _ _ _ _ _ us hl => match us, hl with | [_, _, _], _ => rfl) a l c k
theorem da_events_fit {K : PySem.W.Frag} {h : Heap} {mg : Str → Option Value} (X : K.In h) (G : h.Ns mainGlobals mg) {f : Addr} {oc kV doc pm cdv ct : Value} {od an : Option Addr} {osl : Array (Option Value)}
    (a : PySem.W.nsIn K mainGlobals "events_fit" = some (some (.ref f))) (l : K.lookup f = some ⟨oc, od, .func (PySem.W.fnOf "events_fit" "events_fit" (defArgs s_events_fit) (defBody s_events_fit) (defScope s_events_fit) .none kV doc pm an cdv ct), osl⟩) (c : PySem.W.codeIn K cdv "events_fit" = true) (k : PySem.W.keepIn K (.ref f) = true) : (DefAt K mg "events_fit" s_events_fit ["form", "thing"]) ∧ KwAt K mg "events_fit" ["form", "thing"] ["thing", "form"] revL :=
  ⟨defAt_of X G (fun _ _ _ _ _ _ us hl => match us, hl with | [_, _], _ => rfl) a l c k, kwAt_of X G (fun _ _ _ _ _ _ _ ws hl => match ws, hl with | [_, _], _ => .of_eq rfl) revL_rel a l⟩
theorem da_are_events {K : PySem.W.Frag} {h : Heap} {mg : Str → Option Value} (X : K.In h) (G : h.Ns mainGlobals mg) {f : Addr} {oc kV doc pm cdv ct : Value} {od an : Option Addr} {osl : Array (Option Value)}
    (a : PySem.W.nsIn K mainGlobals "are_events" = some (some (.ref f))) (l : K.lookup f = some ⟨oc, od, .func (PySem.W.fnOf "are_events" "are_events" (defArgs s_are_events) (defBody s_are_events) (defScope s_are_events) .none kV doc pm an cdv ct), osl⟩) (c : PySem.W.codeIn K cdv "are_events" = true) (k : PySem.W.keepIn K (.ref f) = true) : DefAt K mg "are_events" s_are_events ["tree", "thing"] :=
  defAt_of X G (fun _ _ _ _ _ _ us hl => match us, hl with | [_, _], _ => rfl) a l c k
theorem da_is_event {K : PySem.W.Frag} {h : Heap} {mg : Str → Option Value} (X : K.In h) (G : h.Ns mainGlobals mg) {f : Addr} {oc kV doc pm cdv ct : Value} {od an : Option Addr} {osl : Array (Option Value)}
    (a : PySem.W.nsIn K mainGlobals "is_event" = some (some (.ref f))) (l : K.lookup f = some ⟨oc, od, .func (PySem.W.fnOf "is_event" "is_event" (defArgs s_is_event) (defBody s_is_event) (defScope s_is_event) .none kV doc pm an cdv ct), osl⟩) (c : PySem.W.codeIn K cdv "is_event" = true) (k : PySem.W.keepIn K (.ref f) = true) : DefAt K mg "is_event" s_is_event ["tree", "thing"] :=
  defAt_of X G (fun _ _ _ _ _ _ us hl => match us, hl with | [_, _], _ => rfl) a l c k
theorem da_put_place {K : PySem.W.Frag} {h : Heap} {mg : Str → Option Value} (X : K.In h) (G : h.Ns mainGlobals mg) {f : Addr} {oc kV doc pm cdv ct : Value} {od an : Option Addr} {osl : Array (Option Value)}
    (a : PySem.W.nsIn K mainGlobals "put_place" = some (some (.ref f))) (l : K.lookup f = some ⟨oc, od, .func (PySem.W.fnOf "put_place" "put_place" (defArgs s_put_place) (defBody s_put_place) (defScope s_put_place) .none kV doc pm an cdv ct), osl⟩) (c : PySem.W.codeIn K cdv "put_place" = true) (k : PySem.W.keepIn K (.ref f) = true) : (DefAt K mg "put_place" s_put_place ["line", "rank"]) ∧ KwAt K mg "put_place" ["line", "rank"] ["rank", "line"] revL :=
  ⟨defAt_of X G (fun _ _ _ _ _ _ us hl => match us, hl with | [_, _], _ => rfl) a l c k, kwAt_of X G (fun _ _ _ _ _ _ _ ws hl => match ws, hl with | [_, _], _ => .of_eq rfl) revL_rel a l⟩
theorem da_put_entry {K : PySem.W.Frag} {h : Heap} {mg : Str → Option Value} (X : K.In h) (G : h.Ns mainGlobals mg) {f : Addr} {oc kV doc pm cdv ct : Value} {od an : Option Addr} {osl : Array (Option Value)}
    (a : PySem.W.nsIn K mainGlobals "put_entry" = some (some (.ref f))) (l : K.lookup f = some ⟨oc, od, .func (PySem.W.fnOf "put_entry" "put_entry" (defArgs s_put_entry) (defBody s_put_entry) (defScope s_put_entry) .none kV doc pm an cdv ct), osl⟩) (c : PySem.W.codeIn K cdv "put_entry" = true) (k : PySem.W.keepIn K (.ref f) = true) : (DefAt K mg "put_entry" s_put_entry ["line", "rank", "item"]) ∧ KwAt K mg "put_entry" ["line", "rank", "item"] ["item", "line", "rank"] rotL :=
  ⟨defAt_of X G (fun _ _ _ _ _ _ us hl => match us, hl with | [_, _, _], _ => rfl) a l c k, kwAt_of X G (fun _ _ _ _ _ _ _ ws hl => match ws, hl with | [_, _, _], _ => .of_eq rfl) rotL_rel a l⟩
theorem da_place_behind {K : PySem.W.Frag} {h : Heap} {mg : Str → Option Value} (X : K.In h) (G : h.Ns mainGlobals mg) {f : Addr} {oc kV doc pm cdv ct : Value} {od an : Option Addr} {osl : Array (Option Value)}
    (a : PySem.W.nsIn K mainGlobals "place_behind" = some (some (.ref f))) (l : K.lookup f = some ⟨oc, od, .func (PySem.W.fnOf "place_behind" "place_behind" (defArgs s_place_behind) (defBody s_place_behind) (defScope s_place_behind) .none kV doc pm an cdv ct), osl⟩) (c : PySem.W.codeIn K cdv "place_behind" = true) (k : PySem.W.keepIn K (.ref f) = true) : DefAt K mg "place_behind" s_place_behind ["line", "rank"] :=
  defAt_of X G (fun _ _ _ _ _ _ us hl => match us, hl with | [_, _], _ => rfl) a l c k
theorem da_law_tape {K : PySem.W.Frag} {h : Heap} {mg : Str → Option Value} (X : K.In h) (G : h.Ns mainGlobals mg) {f : Addr} {oc kV doc pm cdv ct : Value} {od an : Option Addr} {osl : Array (Option Value)}
    (a : PySem.W.nsIn K mainGlobals "_law_tape" = some (some (.ref f))) (l : K.lookup f = some ⟨oc, od, .func (PySem.W.fnOf "_law_tape" "_law_tape" (defArgs s_law_tape) (defBody s_law_tape) (defScope s_law_tape) .none kV doc pm an cdv ct), osl⟩) (c : PySem.W.codeIn K cdv "_law_tape" = true) (k : PySem.W.keepIn K (.ref f) = true) : DefAt K mg "_law_tape" s_law_tape ["script"] :=
  defAt_of X G (fun _ _ _ _ _ _ us hl => match us, hl with | [_], _ => rfl) a l c k
theorem da_law_draw {K : PySem.W.Frag} {h : Heap} {mg : Str → Option Value} (X : K.In h) (G : h.Ns mainGlobals mg) {f : Addr} {oc kV doc pm cdv ct : Value} {od an : Option Addr} {osl : Array (Option Value)}
    (a : PySem.W.nsIn K mainGlobals "_law_draw" = some (some (.ref f))) (l : K.lookup f = some ⟨oc, od, .func (PySem.W.fnOf "_law_draw" "_law_draw" (defArgs s_law_draw) (defBody s_law_draw) (defScope s_law_draw) .none kV doc pm an cdv ct), osl⟩) (c : PySem.W.codeIn K cdv "_law_draw" = true) (k : PySem.W.keepIn K (.ref f) = true) : DefAt K mg "_law_draw" s_law_draw ["tape", "many"] :=
  defAt_of X G (fun _ _ _ _ _ _ us hl => match us, hl with | [_, _], _ => rfl) a l c k
theorem da_law_same {K : PySem.W.Frag} {h : Heap} {mg : Str → Option Value} (X : K.In h) (G : h.Ns mainGlobals mg) {f : Addr} {oc kV doc pm cdv ct : Value} {od an : Option Addr} {osl : Array (Option Value)}
    (a : PySem.W.nsIn K mainGlobals "_law_same" = some (some (.ref f))) (l : K.lookup f = some ⟨oc, od, .func (PySem.W.fnOf "_law_same" "_law_same" (defArgs s_law_same) (defBody s_law_same) (defScope s_law_same) .none kV doc pm an cdv ct), osl⟩) (c : PySem.W.codeIn K cdv "_law_same" = true) (k : PySem.W.keepIn K (.ref f) = true) : DefAt K mg "_law_same" s_law_same ["one", "other"] :=
  defAt_of X G (fun _ _ _ _ _ _ us hl => match us, hl with | [_, _], _ => rfl) a l c k
theorem da_law_is {K : PySem.W.Frag} {h : Heap} {mg : Str → Option Value} (X : K.In h) (G : h.Ns mainGlobals mg) {f : Addr} {oc kV doc pm cdv ct : Value} {od an : Option Addr} {osl : Array (Option Value)}
    (a : PySem.W.nsIn K mainGlobals "_law_is" = some (some (.ref f))) (l : K.lookup f = some ⟨oc, od, .func (PySem.W.fnOf "_law_is" "_law_is" (defArgs s_law_is) (defBody s_law_is) (defScope s_law_is) .none kV doc pm an cdv ct), osl⟩) (c : PySem.W.codeIn K cdv "_law_is" = true) (k : PySem.W.keepIn K (.ref f) = true) : DefAt K mg "_law_is" s_law_is ["told", "due"] :=
  defAt_of X G (fun _ _ _ _ _ _ us hl => match us, hl with | [_, _], _ => rfl) a l c k
theorem da_law_ask {K : PySem.W.Frag} {h : Heap} {mg : Str → Option Value} (X : K.In h) (G : h.Ns mainGlobals mg) {f : Addr} {oc kV doc pm cdv ct : Value} {od an : Option Addr} {osl : Array (Option Value)}
    (a : PySem.W.nsIn K mainGlobals "_law_ask" = some (some (.ref f))) (l : K.lookup f = some ⟨oc, od, .func (PySem.W.fnOf "_law_ask" "_law_ask" (defArgs s_law_ask) (defBody s_law_ask) (defScope s_law_ask) .none kV doc pm an cdv ct), osl⟩) (c : PySem.W.codeIn K cdv "_law_ask" = true) (k : PySem.W.keepIn K (.ref f) = true) : DefAt K mg "_law_ask" s_law_ask ["word", "one", "two", "three"] :=
  defAt_of X G (fun _ _ _ _ _ _ us hl => match us, hl with | [_, _, _, _], _ => rfl) a l c k
theorem da_law_rank {K : PySem.W.Frag} {h : Heap} {mg : Str → Option Value} (X : K.In h) (G : h.Ns mainGlobals mg) {f : Addr} {oc kV doc pm cdv ct : Value} {od an : Option Addr} {osl : Array (Option Value)}
    (a : PySem.W.nsIn K mainGlobals "_law_rank" = some (some (.ref f))) (l : K.lookup f = some ⟨oc, od, .func (PySem.W.fnOf "_law_rank" "_law_rank" (defArgs s_law_rank) (defBody s_law_rank) (defScope s_law_rank) .none kV doc pm an cdv ct), osl⟩) (c : PySem.W.codeIn K cdv "_law_rank" = true) (k : PySem.W.keepIn K (.ref f) = true) : DefAt K mg "_law_rank" s_law_rank ["tape", "manner"] :=
  defAt_of X G (fun _ _ _ _ _ _ us hl => match us, hl with | [_, _], _ => rfl) a l c k
theorem da_law_item {K : PySem.W.Frag} {h : Heap} {mg : Str → Option Value} (X : K.In h) (G : h.Ns mainGlobals mg) {f : Addr} {oc kV doc pm cdv ct : Value} {od an : Option Addr} {osl : Array (Option Value)}
    (a : PySem.W.nsIn K mainGlobals "_law_item" = some (some (.ref f))) (l : K.lookup f = some ⟨oc, od, .func (PySem.W.fnOf "_law_item" "_law_item" (defArgs s_law_item) (defBody s_law_item) (defScope s_law_item) .none kV doc pm an cdv ct), osl⟩) (c : PySem.W.codeIn K cdv "_law_item" = true) (k : PySem.W.keepIn K (.ref f) = true) : DefAt K mg "_law_item" s_law_item ["tape", "manner", "number"] :=
  defAt_of X G (fun _ _ _ _ _ _ us hl => match us, hl with | [_, _, _], _ => rfl) a l c k
theorem da_law_greater {K : PySem.W.Frag} {h : Heap} {mg : Str → Option Value} (X : K.In h) (G : h.Ns mainGlobals mg) {f : Addr} {oc kV doc pm cdv ct : Value} {od an : Option Addr} {osl : Array (Option Value)}
    (a : PySem.W.nsIn K mainGlobals "_law_greater" = some (some (.ref f))) (l : K.lookup f = some ⟨oc, od, .func (PySem.W.fnOf "_law_greater" "_law_greater" (defArgs s_law_greater) (defBody s_law_greater) (defScope s_law_greater) .none kV doc pm an cdv ct), osl⟩) (c : PySem.W.codeIn K cdv "_law_greater" = true) (k : PySem.W.keepIn K (.ref f) = true) : DefAt K mg "_law_greater" s_law_greater ["one", "other"] :=
  defAt_of X G (fun _ _ _ _ _ _ us hl => match us, hl with | [_, _], _ => rfl) a l c k
theorem da_law_sorted {K : PySem.W.Frag} {h : Heap} {mg : Str → Option Value} (X : K.In h) (G : h.Ns mainGlobals mg) {f : Addr} {oc kV doc pm cdv ct : Value} {od an : Option Addr} {osl : Array (Option Value)}
    (a : PySem.W.nsIn K mainGlobals "_law_sorted" = some (some (.ref f))) (l : K.lookup f = some ⟨oc, od, .func (PySem.W.fnOf "_law_sorted" "_law_sorted" (defArgs s_law_sorted) (defBody s_law_sorted) (defScope s_law_sorted) .none kV doc pm an cdv ct), osl⟩) (c : PySem.W.codeIn K cdv "_law_sorted" = true) (k : PySem.W.keepIn K (.ref f) = true) : DefAt K mg "_law_sorted" s_law_sorted ["ranks", "things"] :=
  defAt_of X G (fun _ _ _ _ _ _ us hl => match us, hl with | [_, _], _ => rfl) a l c k
theorem da_law_puts {K : PySem.W.Frag} {h : Heap} {mg : Str → Option Value} (X : K.In h) (G : h.Ns mainGlobals mg) {f : Addr} {oc kV doc pm cdv ct : Value} {od an : Option Addr} {osl : Array (Option Value)}
    (a : PySem.W.nsIn K mainGlobals "_law_puts" = some (some (.ref f))) (l : K.lookup f = some ⟨oc, od, .func (PySem.W.fnOf "_law_puts" "_law_puts" (defArgs s_law_puts) (defBody s_law_puts) (defScope s_law_puts) .none kV doc pm an cdv ct), osl⟩) (c : PySem.W.codeIn K cdv "_law_puts" = true) (k : PySem.W.keepIn K (.ref f) = true) : DefAt K mg "_law_puts" s_law_puts ["tape"] :=
  defAt_of X G (fun _ _ _ _ _ _ us hl => match us, hl with | [_], _ => rfl) a l c k
theorem da_law_long {K : PySem.W.Frag} {h : Heap} {mg : Str → Option Value} (X : K.In h) (G : h.Ns mainGlobals mg) {f : Addr} {oc kV doc pm cdv ct : Value} {od an : Option Addr} {osl : Array (Option Value)}
    (a : PySem.W.nsIn K mainGlobals "_law_long" = some (some (.ref f))) (l : K.lookup f = some ⟨oc, od, .func (PySem.W.fnOf "_law_long" "_law_long" (defArgs s_law_long) (defBody s_law_long) (defScope s_law_long) .none kV doc pm an cdv ct), osl⟩) (c : PySem.W.codeIn K cdv "_law_long" = true) (k : PySem.W.keepIn K (.ref f) = true) : DefAt K mg "_law_long" s_law_long ["tape"] :=
  defAt_of X G (fun _ _ _ _ _ _ us hl => match us, hl with | [_], _ => rfl) a l c k
theorem da_law_bad_rank {K : PySem.W.Frag} {h : Heap} {mg : Str → Option Value} (X : K.In h) (G : h.Ns mainGlobals mg) {f : Addr} {oc kV doc pm cdv ct : Value} {od an : Option Addr} {osl : Array (Option Value)}
    (a : PySem.W.nsIn K mainGlobals "_law_bad_rank" = some (some (.ref f))) (l : K.lookup f = some ⟨oc, od, .func (PySem.W.fnOf "_law_bad_rank" "_law_bad_rank" (defArgs s_law_bad_rank) (defBody s_law_bad_rank) (defScope s_law_bad_rank) .none kV doc pm an cdv ct), osl⟩) (c : PySem.W.codeIn K cdv "_law_bad_rank" = true) (k : PySem.W.keepIn K (.ref f) = true) : DefAt K mg "_law_bad_rank" s_law_bad_rank ["tape"] :=
  defAt_of X G (fun _ _ _ _ _ _ us hl => match us, hl with | [_], _ => rfl) a l c k
theorem da_law_bad_line {K : PySem.W.Frag} {h : Heap} {mg : Str → Option Value} (X : K.In h) (G : h.Ns mainGlobals mg) {f : Addr} {oc kV doc pm cdv ct : Value} {od an : Option Addr} {osl : Array (Option Value)}
    (a : PySem.W.nsIn K mainGlobals "_law_bad_line" = some (some (.ref f))) (l : K.lookup f = some ⟨oc, od, .func (PySem.W.fnOf "_law_bad_line" "_law_bad_line" (defArgs s_law_bad_line) (defBody s_law_bad_line) (defScope s_law_bad_line) .none kV doc pm an cdv ct), osl⟩) (c : PySem.W.codeIn K cdv "_law_bad_line" = true) (k : PySem.W.keepIn K (.ref f) = true) : DefAt K mg "_law_bad_line" s_law_bad_line ["tape", "line"] :=
  defAt_of X G (fun _ _ _ _ _ _ us hl => match us, hl with | [_, _], _ => rfl) a l c k
theorem da_law_kinds {K : PySem.W.Frag} {h : Heap} {mg : Str → Option Value} (X : K.In h) (G : h.Ns mainGlobals mg) {f : Addr} {oc kV doc pm cdv ct : Value} {od an : Option Addr} {osl : Array (Option Value)}
    (a : PySem.W.nsIn K mainGlobals "_law_kinds" = some (some (.ref f))) (l : K.lookup f = some ⟨oc, od, .func (PySem.W.fnOf "_law_kinds" "_law_kinds" (defArgs s_law_kinds) (defBody s_law_kinds) (defScope s_law_kinds) .none kV doc pm an cdv ct), osl⟩) (c : PySem.W.codeIn K cdv "_law_kinds" = true) (k : PySem.W.keepIn K (.ref f) = true) : DefAt K mg "_law_kinds" s_law_kinds ["tape", "line"] :=
  defAt_of X G (fun _ _ _ _ _ _ us hl => match us, hl with | [_, _], _ => rfl) a l c k
theorem da_law_form {K : PySem.W.Frag} {h : Heap} {mg : Str → Option Value} (X : K.In h) (G : h.Ns mainGlobals mg) {f : Addr} {oc kV doc pm cdv ct : Value} {od an : Option Addr} {osl : Array (Option Value)}
    (a : PySem.W.nsIn K mainGlobals "_law_form" = some (some (.ref f))) (l : K.lookup f = some ⟨oc, od, .func (PySem.W.fnOf "_law_form" "_law_form" (defArgs s_law_form) (defBody s_law_form) (defScope s_law_form) .none kV doc pm an cdv ct), osl⟩) (c : PySem.W.codeIn K cdv "_law_form" = true) (k : PySem.W.keepIn K (.ref f) = true) : DefAt K mg "_law_form" s_law_form ["tape"] :=
  defAt_of X G (fun _ _ _ _ _ _ us hl => match us, hl with | [_], _ => rfl) a l c k
theorem da_law_deeps {K : PySem.W.Frag} {h : Heap} {mg : Str → Option Value} (X : K.In h) (G : h.Ns mainGlobals mg) {f : Addr} {oc kV doc pm cdv ct : Value} {od an : Option Addr} {osl : Array (Option Value)}
    (a : PySem.W.nsIn K mainGlobals "_law_deeps" = some (some (.ref f))) (l : K.lookup f = some ⟨oc, od, .func (PySem.W.fnOf "_law_deeps" "_law_deeps" (defArgs s_law_deeps) (defBody s_law_deeps) (defScope s_law_deeps) .none kV doc pm an cdv ct), osl⟩) (c : PySem.W.codeIn K cdv "_law_deeps" = true) (k : PySem.W.keepIn K (.ref f) = true) : DefAt K mg "_law_deeps" s_law_deeps ["form"] :=
  defAt_of X G (fun _ _ _ _ _ _ us hl => match us, hl with | [_], _ => rfl) a l c k
theorem da_law_bad_form {K : PySem.W.Frag} {h : Heap} {mg : Str → Option Value} (X : K.In h) (G : h.Ns mainGlobals mg) {f : Addr} {oc kV doc pm cdv ct : Value} {od an : Option Addr} {osl : Array (Option Value)}
    (a : PySem.W.nsIn K mainGlobals "_law_bad_form" = some (some (.ref f))) (l : K.lookup f = some ⟨oc, od, .func (PySem.W.fnOf "_law_bad_form" "_law_bad_form" (defArgs s_law_bad_form) (defBody s_law_bad_form) (defScope s_law_bad_form) .none kV doc pm an cdv ct), osl⟩) (c : PySem.W.codeIn K cdv "_law_bad_form" = true) (k : PySem.W.keepIn K (.ref f) = true) : DefAt K mg "_law_bad_form" s_law_bad_form ["tape"] :=
  defAt_of X G (fun _ _ _ _ _ _ us hl => match us, hl with | [_], _ => rfl) a l c k
theorem da_law_ways {K : PySem.W.Frag} {h : Heap} {mg : Str → Option Value} (X : K.In h) (G : h.Ns mainGlobals mg) {f : Addr} {oc kV doc pm cdv ct : Value} {od an : Option Addr} {osl : Array (Option Value)}
    (a : PySem.W.nsIn K mainGlobals "_law_ways" = some (some (.ref f))) (l : K.lookup f = some ⟨oc, od, .func (PySem.W.fnOf "_law_ways" "_law_ways" (defArgs s_law_ways) (defBody s_law_ways) (defScope s_law_ways) .none kV doc pm an cdv ct), osl⟩) (c : PySem.W.codeIn K cdv "_law_ways" = true) (k : PySem.W.keepIn K (.ref f) = true) : DefAt K mg "_law_ways" s_law_ways ["tape"] :=
  defAt_of X G (fun _ _ _ _ _ _ us hl => match us, hl with | [_], _ => rfl) a l c k
theorem da_law_event {K : PySem.W.Frag} {h : Heap} {mg : Str → Option Value} (X : K.In h) (G : h.Ns mainGlobals mg) {f : Addr} {oc kV doc pm cdv ct : Value} {od an : Option Addr} {osl : Array (Option Value)}
    (a : PySem.W.nsIn K mainGlobals "_law_event" = some (some (.ref f))) (l : K.lookup f = some ⟨oc, od, .func (PySem.W.fnOf "_law_event" "_law_event" (defArgs s_law_event) (defBody s_law_event) (defScope s_law_event) .none kV doc pm an cdv ct), osl⟩) (c : PySem.W.codeIn K cdv "_law_event" = true) (k : PySem.W.keepIn K (.ref f) = true) : DefAt K mg "_law_event" s_law_event ["tape", "deeps", "number"] :=
  defAt_of X G (fun _ _ _ _ _ _ us hl => match us, hl with | [_, _, _], _ => rfl) a l c k
theorem da_law_bad_event {K : PySem.W.Frag} {h : Heap} {mg : Str → Option Value} (X : K.In h) (G : h.Ns mainGlobals mg) {f : Addr} {oc kV doc pm cdv ct : Value} {od an : Option Addr} {osl : Array (Option Value)}
    (a : PySem.W.nsIn K mainGlobals "_law_bad_event" = some (some (.ref f))) (l : K.lookup f = some ⟨oc, od, .func (PySem.W.fnOf "_law_bad_event" "_law_bad_event" (defArgs s_law_bad_event) (defBody s_law_bad_event) (defScope s_law_bad_event) .none kV doc pm an cdv ct), osl⟩) (c : PySem.W.codeIn K cdv "_law_bad_event" = true) (k : PySem.W.keepIn K (.ref f) = true) : DefAt K mg "_law_bad_event" s_law_bad_event ["tape", "deeps", "event"] :=
  defAt_of X G (fun _ _ _ _ _ _ us hl => match us, hl with | [_, _, _], _ => rfl) a l c k
theorem da_law_events {K : PySem.W.Frag} {h : Heap} {mg : Str → Option Value} (X : K.In h) (G : h.Ns mainGlobals mg) {f : Addr} {oc kV doc pm cdv ct : Value} {od an : Option Addr} {osl : Array (Option Value)}
    (a : PySem.W.nsIn K mainGlobals "_law_events" = some (some (.ref f))) (l : K.lookup f = some ⟨oc, od, .func (PySem.W.fnOf "_law_events" "_law_events" (defArgs s_law_events) (defBody s_law_events) (defScope s_law_events) .none kV doc pm an cdv ct), osl⟩) (c : PySem.W.codeIn K cdv "_law_events" = true) (k : PySem.W.keepIn K (.ref f) = true) : DefAt K mg "_law_events" s_law_events ["tape"] :=
  defAt_of X G (fun _ _ _ _ _ _ us hl => match us, hl with | [_], _ => rfl) a l c k
theorem all_grow {P : Program} {w : World} {K : PySem.W.Frag} {mg : Str → Option Value} {base : Heap} {C f : Addr} {fd : FuncData} (F : Fun K "_grow" "ShapeTree._grow" s_ShapeTree_grow f fd) (b : Binds K fd ["self", "bough", "above", "side"] []) (T : Txt K mg) (TC : TCl K mg C f) :
    ∀ n, FnOk P w K mg base CX0 n f fd ["self", "bough", "above", "side"] (spGrow K C n)
  | 0 => by
    have no : ∀ vs H Q E, ¬ spGrow K C 0 vs H Q E := fun vs H Q E h => by
      obtain ⟨a, b, ab, dx, bs, T, u, p, fv, L, S, _, _, _, _, _, _, _, h, _⟩ := h
      exact absurd h (Nat.not_lt_zero _)
    exact ⟨fun vs H Q E h => absurd h (no vs H Q E), fun A outer s H args us vs Q E _ _ _ _ h => absurd h (no vs H Q E)⟩
  | n + 1 => ok_grow F b (all_grow F b T TC n) T TC
theorem law_ok {P : Program} {w : World} {K : PySem.W.Frag} {mg : Str → Option Value} {base : Heap} {C U B S PA fI fC fG fL : Addr} {fdC fdG fdL : FuncData} (N : NUT K mg U fI) (EE : EK K mg U B S PA) (T : Txt K mg) (mabs : mg "abs" = none) (TC : TCl K mg C fG) (mk : ∃ t, mg "MOST_CHILDREN" = some (.int 6 t))
    (mi : ∃ t, mg "MOST_INTEGERS" = some (.int 8 t)) (mr : ∃ t, mg "RANK_BOUND" = some (.int rankB t)) (mp : ∃ t, mg "PACKET_BOUND" = some (.int packB t))
    (FG : Fun K "_grow" "ShapeTree._grow" s_ShapeTree_grow fG fdG) (bG : Binds K fdG ["self", "bough", "above", "side"] []) (M : Mk K C fC) (gC : mg "ShapeTree" = some (.ref C)) (FC : Fun K "__init__" "ShapeTree.__init__" s_ShapeTree_init fC fdC) (bC : Binds K fdC ["self", "form"] [])
    (D_is_integer : DefAt K mg "is_integer" s_is_integer ["thing"]) (D_is_number : DefAt K mg "is_number" s_is_number ["thing"]) (D_is_below : DefAt K mg "is_below" s_is_below ["thing", "bound"]) (D_need : DefAt K mg "need" s_need ["fits", "word"]) (D_copied : DefAt K mg "copied" s_copied ["thing"]) (D_is_shape : DefAt K mg "is_shape" s_is_shape ["thing"]) (D_has_forks_of : DefAt K mg "has_forks_of" s_has_forks_of ["thing", "least"]) (D_need_shape : DefAt K mg "need_shape" s_need_shape ["form", "word"]) (D_need_queue : DefAt K mg "need_queue" s_need_queue ["tree", "queue", "word"]) (D_shape_tree : DefAt K mg "shape_tree" s_shape_tree ["form", "word"]) (D_is_rank : (DefAt K mg "is_rank" s_is_rank ["thing"]) ∧ KwAt K mg "is_rank" ["thing"] ["thing"] idL) (D_is_line : (DefAt K mg "is_line" s_is_line ["thing"]) ∧ KwAt K mg "is_line" ["thing"] ["thing"] idL) (D_are_ranks : (DefAt K mg "are_ranks" s_are_ranks ["form", "queue", "thing"]) ∧ KwAt K mg "are_ranks" ["form", "queue", "thing"] ["thing", "queue", "form"] revL) (D_fit_path : DefAt K mg "fit_path" s_fit_path ["tree", "queue", "thing"]) (D_is_way : DefAt K mg "is_way" s_is_way ["tree", "queue", "ranks"]) (D_events_fit : (DefAt K mg "events_fit" s_events_fit ["form", "thing"]) ∧ KwAt K mg "events_fit" ["form", "thing"] ["thing", "form"] revL) (D_are_events : DefAt K mg "are_events" s_are_events ["tree", "thing"]) (D_is_event : DefAt K mg "is_event" s_is_event ["tree", "thing"]) (D_put_place : (DefAt K mg "put_place" s_put_place ["line", "rank"]) ∧ KwAt K mg "put_place" ["line", "rank"] ["rank", "line"] revL) (D_put_entry : (DefAt K mg "put_entry" s_put_entry ["line", "rank", "item"]) ∧ KwAt K mg "put_entry" ["line", "rank", "item"] ["item", "line", "rank"] rotL) (D_place_behind : DefAt K mg "place_behind" s_place_behind ["line", "rank"]) (D_law_tape : DefAt K mg "_law_tape" s_law_tape ["script"]) (D_law_draw : DefAt K mg "_law_draw" s_law_draw ["tape", "many"]) (D_law_same : DefAt K mg "_law_same" s_law_same ["one", "other"]) (D_law_is : DefAt K mg "_law_is" s_law_is ["told", "due"]) (D_law_ask : DefAt K mg "_law_ask" s_law_ask ["word", "one", "two", "three"]) (D_law_rank : DefAt K mg "_law_rank" s_law_rank ["tape", "manner"]) (D_law_item : DefAt K mg "_law_item" s_law_item ["tape", "manner", "number"]) (D_law_greater : DefAt K mg "_law_greater" s_law_greater ["one", "other"]) (D_law_sorted : DefAt K mg "_law_sorted" s_law_sorted ["ranks", "things"]) (D_law_puts : DefAt K mg "_law_puts" s_law_puts ["tape"]) (D_law_long : DefAt K mg "_law_long" s_law_long ["tape"]) (D_law_bad_rank : DefAt K mg "_law_bad_rank" s_law_bad_rank ["tape"]) (D_law_bad_line : DefAt K mg "_law_bad_line" s_law_bad_line ["tape", "line"]) (D_law_kinds : DefAt K mg "_law_kinds" s_law_kinds ["tape", "line"]) (D_law_form : DefAt K mg "_law_form" s_law_form ["tape"]) (D_law_deeps : DefAt K mg "_law_deeps" s_law_deeps ["form"]) (D_law_bad_form : DefAt K mg "_law_bad_form" s_law_bad_form ["tape"]) (D_law_ways : DefAt K mg "_law_ways" s_law_ways ["tape"]) (D_law_event : DefAt K mg "_law_event" s_law_event ["tape", "deeps", "number"]) (D_law_bad_event : DefAt K mg "_law_bad_event" s_law_bad_event ["tape", "deeps", "event"]) (D_law_events : DefAt K mg "_law_events" s_law_events ["tape"])
    (FL : Fun K "law" "law" s_law fL fdL) : FnOk P w K mg base CX0 27 fL fdL ["script"] (spLaw K) := by
  have GI := ok_integer (P := P) (w := w) (base := base) D_is_integer T
  have GNm := ok_number D_is_number GI
  have GB := ok_below D_is_below GNm
  have GN := ok_need (P := P) (w := w) (base := base) D_need N
  have GFo := ok_forks (P := P) (w := w) (base := base) D_has_forks_of T mk
  have GSh := ok_isShape D_is_shape GFo
  have GNS := ok_needShape (U := U) D_need_shape GSh GN
  have GG := all_grow (P := P) (w := w) (base := base) FG bG T TC 20
  have GIn := ok_init FC bG GG TC GNS
  have GQu := ok_need_queue (C := C) D_need_queue T TC GB GN
  have GST := ok_shapeTree D_shape_tree M gC bC GIn GNS
  have GR := ok_rank D_is_rank.1 T mi mr GI
  have GL := ok_line D_is_line.1 T GR
  have GFi := ok_fit (C := C) D_fit_path T TC GR
  have GAR := ok_areRanks D_are_ranks.1 GST GQu GFi
  have GWy := ok_way D_is_way T TC GB GFi
  have GEv := ok_event D_is_event T mp GB GWy
  have GEs := ok_events D_are_events T GEv
  have GFt := ok_fits D_events_fit.1 GST GEs
  have GBe := ok_behind (P := P) (w := w) (base := base) D_place_behind T
  have GCo := ok_copied (P := P) (w := w) (base := base) D_copied T 6
  have GPP := ok_putPlace D_put_place.1 GL GR GBe GN
  have GPE := ok_putEntry (n := 6) (by decide) D_put_entry.1 GL GR GBe GCo GN
  have GTa := ok_tape (P := P) (w := w) (base := base) D_law_tape T mabs
  have GDr := ok_draw (P := P) (w := w) (base := base) D_law_draw T
  have GSa := ok_same (P := P) (w := w) (base := base) D_law_same T 6
  have GIs := ok_is (P := P) (w := w) (K := K) (base := base) D_law_is
  have GAs := ok_ask D_law_ask T N EE GPP D_put_place.2 GPE D_put_entry.2 GAR D_are_ranks.2 GFt D_events_fit.2
  have GRk := ok_mkrank D_law_rank T GDr
  have GIt := ok_item D_law_item T GDr
  have GGr := ok_greater (P := P) (w := w) (base := base) D_law_greater T
  have GSo := ok_sorted (P := P) (w := w) (base := base) D_law_sorted T
  have GPu := ok_puts D_law_puts T GDr GRk GIt GGr GSa GAs GSo GL
  have GLo := ok_long D_law_long T GDr GGr GSa GPP GPE
  have GBR := ok_badrank D_law_bad_rank T GDr
  have GBL := ok_badline D_law_bad_line T GDr GBR
  have GKi := ok_kinds D_law_kinds T GDr GGr GSa GIs GL D_is_line.2 GR D_is_rank.2 GRk GBR GBL GAs
  have GFm := ok_form D_law_form T GDr
  have GDe := ok_deeps (P := P) (w := w) (base := base) D_law_deeps T
  have GBF := ok_badform D_law_bad_form T GDr
  have GWa := ok_ways D_law_ways T GDr GSa GIs GFm GDe GBF GRk GBR GAs
  have GE1 := ok_event1 D_law_event T GDr GRk
  have GBE := ok_bad_event D_law_bad_event T GDr GBR
  have GE2 := ok_events1 D_law_events T GDr GSa GFm GDe GBF GE1 GBE GAs
  exact ok_law FL T GTa GDr GPu GLo GKi GWa GE2
end K23
set_option Elab.async false
set_option linter.all false
set_option maxRecDepth 100000
namespace K23
open PySem PySem.Spec PyProof.Rows L2 Dt
theorem te_of {K : PySem.W.Frag} {U : Addr} (b : PySem.W.subIn K (.ref U) (.type "BaseException") = some true) (i : PySem.W.isClsIn K U = true) (t : PySem.W.typeIn K (.ref U) = some (.type "type")) (s : PySem.W.subIn K (.ref U) (.ref U) = some true) : PySem.W.exmOne K (.ref U) (.ref U) = some true := by
  unfold PySem.W.isClsIn at i
  unfold PySem.W.exmOne PySem.W.kitCls
  rw [b]
  simp [i, t, s]
theorem ex_of {K : PySem.W.Frag} {U B : Addr} (b : PySem.W.subIn K (.ref B) (.type "BaseException") = some true) (i : PySem.W.isClsIn K B = true) (t : PySem.W.typeIn K (.ref B) = some (.type "type")) (s : PySem.W.subIn K (.ref U) (.ref B) = some true) : PySem.W.exmOne K (.ref U) (.ref B) = some true := by
  unfold PySem.W.isClsIn at i
  unfold PySem.W.exmOne PySem.W.kitCls
  rw [b]
  simp [i, t, s]
theorem kit_of {K : PySem.W.Frag} {U B : Addr} {b : Bool} (ne : U ≠ B ∨ b = true) (i : PySem.W.isClsIn K B = true) (t : PySem.W.typeIn K (.ref B) = some (.type "type")) (s : PySem.W.subIn K (.ref U) (.ref B) = some b) : PySem.W.kitOne K (.ref U) (.ref B) = some b := by
  unfold PySem.W.isClsIn at i
  unfold PySem.W.kitOne PySem.W.kitCls
  by_cases e : U = B
  · subst e
    rcases ne with ne | ne
    · exact absurd rfl ne
    · rw [ne]
      simp
  · have : (Value.ref U == Value.ref B) = false := by
      simpa using e
    rw [this]
    simp [i, t, s]
theorem all_mk {l : PySem.W.OpenLaw} {w : World} {K : PySem.W.Frag} {h : Heap} {mg : Str → Option Value} {fa C U B S PA fI fC fG : Addr} (X : K.In h) (G : h.Ns mainGlobals mg) (hfa : mg "law" = some (.ref fa))
    {ocI kVI docI pmI cdI ctI ocC kVC docC pmC cdC ctC ocG kVG docG pmG cdG ctG ocL kVL docL pmL cdL ctL : Value} {odI anI odC anC odG anG odL anL : Option Addr} {slI slC slG slL : Array (Option Value)}
    {nm q : Str} {NN : Addr} {bs bm : List Value} {sn : List Str} {sub : List Value} {ab : Bool} {col : Option Bool} {dd : Option Addr} {x0 x1 x2 x3 x5 : Option Value} {tM tI8 tR tP : Tok} {fL : Addr}
    (aU : PySem.W.nsIn K mainGlobals "NotUsable" = some (some (.ref U)))
    (xL : K.lookup U = some (excClassObj nm q U NN bs bm true sn sub ab col dd x0 x1 x2 x3 x5 "ValueError.__new__")) (xm : PySem.HandSPX.refsVE bm = true)
    (saU : PySem.W.findIn K (.ref U) "__setattr__" = some (some (.builtin "object.__setattr__"))) (exU : PySem.W.subIn K (.ref U) (.type "BaseException") = some true) (tyU : PySem.W.typeIn K (.ref U) = some (.type "type")) (kU : PySem.W.keepIn K (.ref U) = true)
    (xga : PySem.W.findIn K (.ref U) "__getattribute__" = some (some (.builtin "BaseException.__getattribute__"))) (xgg : PySem.W.findIn K (.ref U) "__getattr__" = some none) (xhd : PySem.W.hasDictIn K U = true) (nw : PySem.W.findIn K (.ref U) "word" = some none) (na : PySem.W.findIn K (.ref U) "at" = some none)
    (iI : PySem.W.findIn K (.ref U) "__init__" = some (some (.ref fI))) (tI : PySem.W.typeIn K (.ref fI) = some (.type "function")) (tc : PySem.W.isClsIn K U = true) (ts : PySem.W.subIn K (.ref U) (.ref U) = some true)
    (lI : K.lookup fI = some ⟨ocI, odI, .func (PySem.W.fnOf "__init__" "NotUsable.__init__" (defArgs s_NotUsable_init) (defBody s_NotUsable_init) (defScope s_NotUsable_init) .none kVI docI pmI anI cdI ctI), slI⟩) (cI : PySem.W.codeIn K cdI "NotUsable.__init__" = true) (kI : PySem.W.keepIn K (.ref fI) = true)
    (aC : PySem.W.nsIn K mainGlobals "ShapeTree" = some (some (.ref C))) (mM : PySem.W.nsIn K mainGlobals "MOST_CHILDREN" = some (some (.int 6 tM))) (mI : PySem.W.nsIn K mainGlobals "MOST_INTEGERS" = some (some (.int 8 tI8))) (mR : PySem.W.nsIn K mainGlobals "RANK_BOUND" = some (some (.int rankB tR))) (mP : PySem.W.nsIn K mainGlobals "PACKET_BOUND" = some (some (.int packB tP)))
    (aB : PySem.W.nsIn K mainGlobals "BoughError" = some (some (.ref B))) (aS : PySem.W.nsIn K mainGlobals "ShapeError" = some (some (.ref S))) (aP : PySem.W.nsIn K mainGlobals "InvalidPaper" = some (some (.ref PA)))
    (bB : PySem.W.subIn K (.ref B) (.type "BaseException") = some true) (iB : PySem.W.isClsIn K B = true) (tB : PySem.W.typeIn K (.ref B) = some (.type "type")) (sB : PySem.W.subIn K (.ref U) (.ref B) = some true)
    (iS : PySem.W.isClsIn K S = true) (tS : PySem.W.typeIn K (.ref S) = some (.type "type")) (sS : PySem.W.subIn K (.ref U) (.ref S) = some true)
    (iP : PySem.W.isClsIn K PA = true) (tP2 : PySem.W.typeIn K (.ref PA) = some (.type "type")) (sP : PySem.W.subIn K (.ref U) (.ref PA) = some false)
    (ha : PySem.W.findIn K (.ref U) "__class__" = some (some (.builtin "object.__class__"))) (hn : PySem.W.specialIn K (.builtin "object.__class__") "__get__" = some (some (.builtin "getset_descriptor.__get__"))) (ht : PySem.W.takesIn K (.builtin "object.__class__") = some true) (hm : PySem.W.mroIn K U (.type "object") = some true)
    (pg : PySem.W.plainGet K C Str.empty = true) (hd : PySem.W.hasDictIn K C = true) (po : PySem.W.plainOver K C = true) (sa : PySem.W.findIn K (.ref C) "__setattr__" = some (some (.builtin "object.__setattr__"))) (mk : PySem.W.makesIn K C = true) (kC : PySem.W.keepIn K (.ref C) = true)
    (iC : PySem.W.findIn K (.ref C) "__init__" = some (some (.ref fC))) (fC1 : PySem.W.isFn K (.ref fC) = true) (lC : K.lookup fC = some ⟨ocC, odC, .func (PySem.W.fnOf "__init__" "ShapeTree.__init__" (defArgs s_ShapeTree_init) (defBody s_ShapeTree_init) (defScope s_ShapeTree_init) .none kVC docC pmC anC cdC ctC), slC⟩) (cC : PySem.W.codeIn K cdC "ShapeTree.__init__" = true) (kC1 : PySem.W.keepIn K (.ref fC) = true)
    (iG : PySem.W.findIn K (.ref C) "_grow" = some (some (.ref fG))) (fG1 : PySem.W.isFn K (.ref fG) = true) (lG : K.lookup fG = some ⟨ocG, odG, .func (PySem.W.fnOf "_grow" "ShapeTree._grow" (defArgs s_ShapeTree_grow) (defBody s_ShapeTree_grow) (defScope s_ShapeTree_grow) .none kVG docG pmG anG cdG ctG), slG⟩) (cG : PySem.W.codeIn K cdG "ShapeTree._grow" = true) (kG : PySem.W.keepIn K (.ref fG) = true)
    (aL : PySem.W.nsIn K mainGlobals "law" = some (some (.ref fL))) (lL : K.lookup fL = some ⟨ocL, odL, .func (PySem.W.fnOf "law" "law" (defArgs s_law) (defBody s_law) (defScope s_law) .none kVL docL pmL anL cdL ctL), slL⟩) (cL : PySem.W.codeIn K cdL "law" = true) (kL : PySem.W.keepIn K (.ref fL) = true)
    (n0 : PySem.W.findIn K (.ref C) "form" = some none) (n1 : PySem.W.findIn K (.ref C) "boughs" = some none) (n2 : PySem.W.findIn K (.ref C) "parents" = some none) (n3 : PySem.W.findIn K (.ref C) "kids" = some none) (n4 : PySem.W.findIn K (.ref C) "depths" = some none) (n5 : PySem.W.findIn K (.ref C) "sides" = some none) (n6 : PySem.W.findIn K (.ref C) "lows" = some none) (n7 : PySem.W.findIn K (.ref C) "highs" = some none) (n8 : PySem.W.findIn K (.ref C) "ends" = some none) (n9 : PySem.W.findIn K (.ref C) "leaves" = some none) (n10 : PySem.W.findIn K (.ref C) "paths" = some none)
    (z0 : PySem.W.nsIn K mainGlobals "isinstance" = some none) (z1 : PySem.W.nsIn K mainGlobals "int" = some none) (z2 : PySem.W.nsIn K mainGlobals "bool" = some none) (z3 : PySem.W.nsIn K mainGlobals "tuple" = some none) (z4 : PySem.W.nsIn K mainGlobals "str" = some none) (z5 : PySem.W.nsIn K mainGlobals "len" = some none) (z6 : PySem.W.nsIn K mainGlobals "range" = some none) (z7 : PySem.W.nsIn K mainGlobals "enumerate" = some none) (z8 : PySem.W.nsIn K mainGlobals "sorted" = some none) (z9 : PySem.W.nsIn K mainGlobals "all" = some none) (z10 : PySem.W.nsIn K mainGlobals "min" = some none) (z11 : PySem.W.nsIn K mainGlobals "list" = some none) (z12 : PySem.W.nsIn K mainGlobals "abs" = some none)
    (D_is_integer : DefAt K mg "is_integer" s_is_integer ["thing"]) (D_is_number : DefAt K mg "is_number" s_is_number ["thing"]) (D_is_below : DefAt K mg "is_below" s_is_below ["thing", "bound"]) (D_need : DefAt K mg "need" s_need ["fits", "word"]) (D_copied : DefAt K mg "copied" s_copied ["thing"]) (D_is_shape : DefAt K mg "is_shape" s_is_shape ["thing"]) (D_has_forks_of : DefAt K mg "has_forks_of" s_has_forks_of ["thing", "least"]) (D_need_shape : DefAt K mg "need_shape" s_need_shape ["form", "word"]) (D_need_queue : DefAt K mg "need_queue" s_need_queue ["tree", "queue", "word"]) (D_shape_tree : DefAt K mg "shape_tree" s_shape_tree ["form", "word"]) (D_is_rank : (DefAt K mg "is_rank" s_is_rank ["thing"]) ∧ KwAt K mg "is_rank" ["thing"] ["thing"] idL) (D_is_line : (DefAt K mg "is_line" s_is_line ["thing"]) ∧ KwAt K mg "is_line" ["thing"] ["thing"] idL) (D_are_ranks : (DefAt K mg "are_ranks" s_are_ranks ["form", "queue", "thing"]) ∧ KwAt K mg "are_ranks" ["form", "queue", "thing"] ["thing", "queue", "form"] revL) (D_fit_path : DefAt K mg "fit_path" s_fit_path ["tree", "queue", "thing"]) (D_is_way : DefAt K mg "is_way" s_is_way ["tree", "queue", "ranks"]) (D_events_fit : (DefAt K mg "events_fit" s_events_fit ["form", "thing"]) ∧ KwAt K mg "events_fit" ["form", "thing"] ["thing", "form"] revL) (D_are_events : DefAt K mg "are_events" s_are_events ["tree", "thing"]) (D_is_event : DefAt K mg "is_event" s_is_event ["tree", "thing"]) (D_put_place : (DefAt K mg "put_place" s_put_place ["line", "rank"]) ∧ KwAt K mg "put_place" ["line", "rank"] ["rank", "line"] revL) (D_put_entry : (DefAt K mg "put_entry" s_put_entry ["line", "rank", "item"]) ∧ KwAt K mg "put_entry" ["line", "rank", "item"] ["item", "line", "rank"] rotL) (D_place_behind : DefAt K mg "place_behind" s_place_behind ["line", "rank"]) (D_law_tape : DefAt K mg "_law_tape" s_law_tape ["script"]) (D_law_draw : DefAt K mg "_law_draw" s_law_draw ["tape", "many"]) (D_law_same : DefAt K mg "_law_same" s_law_same ["one", "other"]) (D_law_is : DefAt K mg "_law_is" s_law_is ["told", "due"]) (D_law_ask : DefAt K mg "_law_ask" s_law_ask ["word", "one", "two", "three"]) (D_law_rank : DefAt K mg "_law_rank" s_law_rank ["tape", "manner"]) (D_law_item : DefAt K mg "_law_item" s_law_item ["tape", "manner", "number"]) (D_law_greater : DefAt K mg "_law_greater" s_law_greater ["one", "other"]) (D_law_sorted : DefAt K mg "_law_sorted" s_law_sorted ["ranks", "things"]) (D_law_puts : DefAt K mg "_law_puts" s_law_puts ["tape"]) (D_law_long : DefAt K mg "_law_long" s_law_long ["tape"]) (D_law_bad_rank : DefAt K mg "_law_bad_rank" s_law_bad_rank ["tape"]) (D_law_bad_line : DefAt K mg "_law_bad_line" s_law_bad_line ["tape", "line"]) (D_law_kinds : DefAt K mg "_law_kinds" s_law_kinds ["tape", "line"]) (D_law_form : DefAt K mg "_law_form" s_law_form ["tape"]) (D_law_deeps : DefAt K mg "_law_deeps" s_law_deeps ["form"]) (D_law_bad_form : DefAt K mg "_law_bad_form" s_law_bad_form ["tape"]) (D_law_ways : DefAt K mg "_law_ways" s_law_ways ["tape"]) (D_law_event : DefAt K mg "_law_event" s_law_event ["tape", "deeps", "number"]) (D_law_bad_event : DefAt K mg "_law_bad_event" s_law_bad_event ["tape", "deeps", "event"]) (D_law_events : DefAt K mg "_law_events" s_law_events ["tape"]) :
    ∃ fd : FuncData, (∀ (s : Shared) (v : Value), BindsTo s fd ⟨[v], []⟩ [("script", v)]) ∧ ∀ base : Heap, K.In base → base.Ns mainGlobals mg → FnOk l.prog w K mg base CX0 27 fa fd ["script"] (spLaw K) := by
  have e := hfa.symm.trans (PySem.W.mg_of X G aL)
  cases e
  have FI := fun_mk (st := s_NotUsable_init) lI cI kI
  have FC := fun_mk (st := s_ShapeTree_init) lC cC kC1
  have FG := fun_mk (st := s_ShapeTree_grow) lG cG kG
  have FL := fun_mk (st := s_law) lL cL kL
  have bI := FI.binds (ps := ["self", "word", "at"]) fun _ _ _ _ _ _ us hl => match us, hl with | [_, _, _], _ => rfl
  have bC := FC.binds (ps := ["self", "form"]) fun _ _ _ _ _ _ us hl => match us, hl with | [_, _], _ => rfl
  have bG := FG.binds (ps := ["self", "bough", "above", "side"]) fun _ _ _ _ _ _ us hl => match us, hl with | [_, _, _, _], _ => rfl
  have N : NUT K mg U fI := ⟨PySem.W.mg_of X G aU, ⟨⟨nm, q, NN, bs, bm, sn, sub, ab, col, dd, x0, x1, x2, x3, x5, xL, xm⟩, saU, exU, tyU, kU⟩, ⟨xga, xgg, exU, xhd⟩, nw, na, iI, tI, te_of exU tc tyU ts, _, FI, bI⟩
  have T : Txt K mg := ⟨PySem.W.mg_none_of X G z0, PySem.W.mg_none_of X G z1, PySem.W.mg_none_of X G z2, PySem.W.mg_none_of X G z3, PySem.W.mg_none_of X G z4, PySem.W.mg_none_of X G z5, PySem.W.mg_none_of X G z6, PySem.W.mg_none_of X G z7, PySem.W.mg_none_of X G z8, PySem.W.mg_none_of X G z9, PySem.W.mg_none_of X G z10, PySem.W.mg_none_of X G z11⟩
  have TC : TCl K mg C fG := ⟨⟨pg, hd, po, sa⟩, ⟨iG, fG1, kG⟩, n0, n1, n2, n3, n4, n5, n6, n7, n8, n9, n10⟩
  have nUP : U ≠ PA := fun z => by
    rw [← z, ts] at sP
    exact nomatch (Option.some.inj sP)
  have EE : EK K mg U B S PA := ⟨PySem.W.mg_of X G aB, PySem.W.mg_of X G aS, PySem.W.mg_of X G aP, ⟨xga, xgg, exU, xhd, ha, hn, ht, hm⟩, ex_of bB iB tB sB, kit_of (.inr rfl) iS tS sS, kit_of (.inl nUP) iP tP2 sP⟩
  refine ⟨PySem.W.fnOf "law" "law" (defArgs s_law) (defBody s_law) (defScope s_law) .none kVL docL pmL anL cdL ctL, fun s v => .of_eq rfl, fun base _ _ => ?_⟩
  exact law_ok N EE T (PySem.W.mg_none_of X G z12) TC ⟨tM, PySem.W.mg_of X G mM⟩ ⟨tI8, PySem.W.mg_of X G mI⟩ ⟨tR, PySem.W.mg_of X G mR⟩ ⟨tP, PySem.W.mg_of X G mP⟩ FG bG ⟨mk, iC, fC1, kC⟩ (PySem.W.mg_of X G aC) FC bC D_is_integer D_is_number D_is_below D_need D_copied D_is_shape D_has_forks_of D_need_shape D_need_queue D_shape_tree D_is_rank D_is_line D_are_ranks D_fit_path D_is_way D_events_fit D_are_events D_is_event D_put_place D_put_entry D_place_behind D_law_tape D_law_draw D_law_same D_law_is D_law_ask D_law_rank D_law_item D_law_greater D_law_sorted D_law_puts D_law_long D_law_bad_rank D_law_bad_line D_law_kinds D_law_form D_law_deeps D_law_bad_form D_law_ways D_law_event D_law_bad_event D_law_events FL
end K23
set_option Elab.async false
set_option linter.all false
set_option maxRecDepth 100000
open PySem PySem.W PyProof.Rows
set_option maxRecDepth 100000 in
set_option maxHeartbeats 0 in
theorem PySem.Challenge.cw_nextbough_k23_put_behind_ties_holds : PySem.Challenge.rw_nextbough_k23_put_behind_ties.Holds := by
  w_on; o_law; k_head; (case hw => w_witness2)
  k_fill
  refine L2.walk_of (n := 63) (k := 27) (x := "script") (CX := fun _ => L2.CX0) (sp := fun w => K23.spLaw _) rfl (by decide) rfl ⟨rfl, by decide, by decide⟩ (fun w h Y => PySem.W.kIn_of Y) ?F (fun _ _ a ns hl _ hS => ⟨a, ns, rfl, hS, hl, fun _ => rfl⟩) fun _ _ _ _ _ z => z
  case F =>
    intro w mg fa h KX G hmg
    refine' K23.all_mk KX G hmg ?aU ?xL ?xm ?saU ?exU ?tyU ?kU ?xga ?xgg ?xhd ?nw ?na ?iI ?tI ?tc ?ts ?lI ?cI ?kI ?aC ?mM ?mI ?mR ?mP ?aB ?aS ?aP ?bB ?iB ?tB ?sB ?iS ?tS ?sS ?iP ?tP2 ?sP ?ha ?hn ?ht ?hm ?pg ?hd ?po ?sa ?mk ?kC ?iC ?fC1 ?lC ?cC ?kC1 ?iG ?fG1 ?lG ?cG ?kG ?aL ?lL ?cL ?kL ?n0 ?n1 ?n2 ?n3 ?n4 ?n5 ?n6 ?n7 ?n8 ?n9 ?n10 ?z0 ?z1 ?z2 ?z3 ?z4 ?z5 ?z6 ?z7 ?z8 ?z9 ?z10 ?z11 ?z12 ?Dis_integer ?Dis_number ?Dis_below ?Dneed ?Dcopied ?Dis_shape ?Dhas_forks_of ?Dneed_shape ?Dneed_queue ?Dshape_tree ?Dis_rank ?Dis_line ?Dare_ranks ?Dfit_path ?Dis_way ?Devents_fit ?Dare_events ?Dis_event ?Dput_place ?Dput_entry ?Dplace_behind ?Dlaw_tape ?Dlaw_draw ?Dlaw_same ?Dlaw_is ?Dlaw_ask ?Dlaw_rank ?Dlaw_item ?Dlaw_greater ?Dlaw_sorted ?Dlaw_puts ?Dlaw_long ?Dlaw_bad_rank ?Dlaw_bad_line ?Dlaw_kinds ?Dlaw_form ?Dlaw_deeps ?Dlaw_bad_form ?Dlaw_ways ?Dlaw_event ?Dlaw_bad_event ?Dlaw_events
    (case aU => k_is)
    (case xL => k_is)
    (case xm => rfl)
    (case saU => k_is)
    (case exU => k_is)
    (case tyU => k_is)
    (case kU => k_is)
    (case xga => k_is)
    (case xgg => k_is)
    (case xhd => k_is)
    (case nw => k_is)
    (case na => k_is)
    (case iI => k_is)
    (case tI => k_is)
    (case tc => k_is)
    (case ts => k_is)
    (case lI => k_is)
    (case cI => k_is)
    (case kI => k_is)
    (case aC => k_is)
    (case mM => k_is)
    (case mI => k_is)
    (case mR => k_is)
    (case mP => k_is)
    (case aB => k_is)
    (case aS => k_is)
    (case aP => k_is)
    (case bB => k_is)
    (case iB => k_is)
    (case tB => k_is)
    (case sB => k_is)
    (case iS => k_is)
    (case tS => k_is)
    (case sS => k_is)
    (case iP => k_is)
    (case tP2 => k_is)
    (case sP => k_is)
    (case ha => k_is)
    (case hn => k_is)
    (case ht => k_is)
    (case hm => k_is)
    (case pg => k_is)
    (case hd => k_is)
    (case po => k_is)
    (case sa => k_is)
    (case mk => k_is)
    (case kC => k_is)
    (case iC => k_is)
    (case fC1 => k_is)
    (case lC => k_is)
    (case cC => k_is)
    (case kC1 => k_is)
    (case iG => k_is)
    (case fG1 => k_is)
    (case lG => k_is)
    (case cG => k_is)
    (case kG => k_is)
    (case aL => k_is)
    (case lL => k_is)
    (case cL => k_is)
    (case kL => k_is)
    (case n0 => k_is)
    (case n1 => k_is)
    (case n2 => k_is)
    (case n3 => k_is)
    (case n4 => k_is)
    (case n5 => k_is)
    (case n6 => k_is)
    (case n7 => k_is)
    (case n8 => k_is)
    (case n9 => k_is)
    (case n10 => k_is)
    (case z0 => k_is)
    (case z1 => k_is)
    (case z2 => k_is)
    (case z3 => k_is)
    (case z4 => k_is)
    (case z5 => k_is)
    (case z6 => k_is)
    (case z7 => k_is)
    (case z8 => k_is)
    (case z9 => k_is)
    (case z10 => k_is)
    (case z11 => k_is)
    (case z12 => k_is)
    (case Dis_integer => refine' K23.da_is_integer KX G ?a ?l ?c ?k; (case a => k_is); (case l => k_is); (case c => k_is); (case k => k_is))
    (case Dis_number => refine' K23.da_is_number KX G ?a ?l ?c ?k; (case a => k_is); (case l => k_is); (case c => k_is); (case k => k_is))
    (case Dis_below => refine' K23.da_is_below KX G ?a ?l ?c ?k; (case a => k_is); (case l => k_is); (case c => k_is); (case k => k_is))
    (case Dneed => refine' K23.da_need KX G ?a ?l ?c ?k; (case a => k_is); (case l => k_is); (case c => k_is); (case k => k_is))
    (case Dcopied => refine' K23.da_copied KX G ?a ?l ?c ?k; (case a => k_is); (case l => k_is); (case c => k_is); (case k => k_is))
    (case Dis_shape => refine' K23.da_is_shape KX G ?a ?l ?c ?k; (case a => k_is); (case l => k_is); (case c => k_is); (case k => k_is))
    (case Dhas_forks_of => refine' K23.da_has_forks_of KX G ?a ?l ?c ?k; (case a => k_is); (case l => k_is); (case c => k_is); (case k => k_is))
    (case Dneed_shape => refine' K23.da_need_shape KX G ?a ?l ?c ?k; (case a => k_is); (case l => k_is); (case c => k_is); (case k => k_is))
    (case Dneed_queue => refine' K23.da_need_queue KX G ?a ?l ?c ?k; (case a => k_is); (case l => k_is); (case c => k_is); (case k => k_is))
    (case Dshape_tree => refine' K23.da_shape_tree KX G ?a ?l ?c ?k; (case a => k_is); (case l => k_is); (case c => k_is); (case k => k_is))
    (case Dis_rank => refine' K23.da_is_rank KX G ?a ?l ?c ?k; (case a => k_is); (case l => k_is); (case c => k_is); (case k => k_is))
    (case Dis_line => refine' K23.da_is_line KX G ?a ?l ?c ?k; (case a => k_is); (case l => k_is); (case c => k_is); (case k => k_is))
    (case Dare_ranks => refine' K23.da_are_ranks KX G ?a ?l ?c ?k; (case a => k_is); (case l => k_is); (case c => k_is); (case k => k_is))
    (case Dfit_path => refine' K23.da_fit_path KX G ?a ?l ?c ?k; (case a => k_is); (case l => k_is); (case c => k_is); (case k => k_is))
    (case Dis_way => refine' K23.da_is_way KX G ?a ?l ?c ?k; (case a => k_is); (case l => k_is); (case c => k_is); (case k => k_is))
    (case Devents_fit => refine' K23.da_events_fit KX G ?a ?l ?c ?k; (case a => k_is); (case l => k_is); (case c => k_is); (case k => k_is))
    (case Dare_events => refine' K23.da_are_events KX G ?a ?l ?c ?k; (case a => k_is); (case l => k_is); (case c => k_is); (case k => k_is))
    (case Dis_event => refine' K23.da_is_event KX G ?a ?l ?c ?k; (case a => k_is); (case l => k_is); (case c => k_is); (case k => k_is))
    (case Dput_place => refine' K23.da_put_place KX G ?a ?l ?c ?k; (case a => k_is); (case l => k_is); (case c => k_is); (case k => k_is))
    (case Dput_entry => refine' K23.da_put_entry KX G ?a ?l ?c ?k; (case a => k_is); (case l => k_is); (case c => k_is); (case k => k_is))
    (case Dplace_behind => refine' K23.da_place_behind KX G ?a ?l ?c ?k; (case a => k_is); (case l => k_is); (case c => k_is); (case k => k_is))
    (case Dlaw_tape => refine' K23.da_law_tape KX G ?a ?l ?c ?k; (case a => k_is); (case l => k_is); (case c => k_is); (case k => k_is))
    (case Dlaw_draw => refine' K23.da_law_draw KX G ?a ?l ?c ?k; (case a => k_is); (case l => k_is); (case c => k_is); (case k => k_is))
    (case Dlaw_same => refine' K23.da_law_same KX G ?a ?l ?c ?k; (case a => k_is); (case l => k_is); (case c => k_is); (case k => k_is))
    (case Dlaw_is => refine' K23.da_law_is KX G ?a ?l ?c ?k; (case a => k_is); (case l => k_is); (case c => k_is); (case k => k_is))
    (case Dlaw_ask => refine' K23.da_law_ask KX G ?a ?l ?c ?k; (case a => k_is); (case l => k_is); (case c => k_is); (case k => k_is))
    (case Dlaw_rank => refine' K23.da_law_rank KX G ?a ?l ?c ?k; (case a => k_is); (case l => k_is); (case c => k_is); (case k => k_is))
    (case Dlaw_item => refine' K23.da_law_item KX G ?a ?l ?c ?k; (case a => k_is); (case l => k_is); (case c => k_is); (case k => k_is))
    (case Dlaw_greater => refine' K23.da_law_greater KX G ?a ?l ?c ?k; (case a => k_is); (case l => k_is); (case c => k_is); (case k => k_is))
    (case Dlaw_sorted => refine' K23.da_law_sorted KX G ?a ?l ?c ?k; (case a => k_is); (case l => k_is); (case c => k_is); (case k => k_is))
    (case Dlaw_puts => refine' K23.da_law_puts KX G ?a ?l ?c ?k; (case a => k_is); (case l => k_is); (case c => k_is); (case k => k_is))
    (case Dlaw_long => refine' K23.da_law_long KX G ?a ?l ?c ?k; (case a => k_is); (case l => k_is); (case c => k_is); (case k => k_is))
    (case Dlaw_bad_rank => refine' K23.da_law_bad_rank KX G ?a ?l ?c ?k; (case a => k_is); (case l => k_is); (case c => k_is); (case k => k_is))
    (case Dlaw_bad_line => refine' K23.da_law_bad_line KX G ?a ?l ?c ?k; (case a => k_is); (case l => k_is); (case c => k_is); (case k => k_is))
    (case Dlaw_kinds => refine' K23.da_law_kinds KX G ?a ?l ?c ?k; (case a => k_is); (case l => k_is); (case c => k_is); (case k => k_is))
    (case Dlaw_form => refine' K23.da_law_form KX G ?a ?l ?c ?k; (case a => k_is); (case l => k_is); (case c => k_is); (case k => k_is))
    (case Dlaw_deeps => refine' K23.da_law_deeps KX G ?a ?l ?c ?k; (case a => k_is); (case l => k_is); (case c => k_is); (case k => k_is))
    (case Dlaw_bad_form => refine' K23.da_law_bad_form KX G ?a ?l ?c ?k; (case a => k_is); (case l => k_is); (case c => k_is); (case k => k_is))
    (case Dlaw_ways => refine' K23.da_law_ways KX G ?a ?l ?c ?k; (case a => k_is); (case l => k_is); (case c => k_is); (case k => k_is))
    (case Dlaw_event => refine' K23.da_law_event KX G ?a ?l ?c ?k; (case a => k_is); (case l => k_is); (case c => k_is); (case k => k_is))
    (case Dlaw_bad_event => refine' K23.da_law_bad_event KX G ?a ?l ?c ?k; (case a => k_is); (case l => k_is); (case c => k_is); (case k => k_is))
    (case Dlaw_events => refine' K23.da_law_events KX G ?a ?l ?c ?k; (case a => k_is); (case l => k_is); (case c => k_is); (case k => k_is))
