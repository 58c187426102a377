import PyProof.Rows.All
import Wide.All
import OpenK.AllK
import Wide.FinOn
import PySem.Challenge.RW_nextbough_k19_whole_tree_walks
import HandS.ForMost
import HandS.ForExc
import HandS.Deep
import HandS.TupAny
import HandS.TupMul
import HandS.ExcInit
import HandS.ExcField
import HandS.IsInst
import HandS.Conv
import HandS.Evl
import KE.GoesMore
import HandS.Walk
import HandS.NamedTupSort
import HandS.MakeKwOnly
set_option Elab.async false
set_option linter.all false
set_option maxRecDepth 100000
set_option maxHeartbeats 2000000
namespace K19
open PySem PySem.Spec PyProof.Rows L2
def topS (i : Nat) : Stmt := PySem.Challenge.pw_nextbough_k19_whole_tree_walks.main.body.getD i (.Pass ⟨0, 0, 0, 0⟩)
abbrev s_NotUsable_init : Stmt := inClass (topS 3) 0
abbrev N_NotUsable_init : List Str := ["self", "word", "at"]
theorem sc_NotUsable_init : FnScope N_NotUsable_init ["self", "word", "at"] (defScope s_NotUsable_init) := ⟨rfl, rfl, rfl, by decide +kernel, rfl, by decide +kernel, by decide +kernel⟩
abbrev s_is_integer : Stmt := topS 5
abbrev N_is_integer : List Str := ["thing"]
theorem sc_is_integer : FnScope N_is_integer ["thing"] (defScope s_is_integer) := ⟨rfl, rfl, rfl, by decide +kernel, rfl, by decide +kernel, by decide +kernel⟩
abbrev s_is_number : Stmt := topS 6
abbrev N_is_number : List Str := ["thing"]
theorem sc_is_number : FnScope N_is_number ["thing"] (defScope s_is_number) := ⟨rfl, rfl, rfl, by decide +kernel, rfl, by decide +kernel, by decide +kernel⟩
abbrev s_is_below : Stmt := topS 7
abbrev N_is_below : List Str := ["thing", "bound"]
theorem sc_is_below : FnScope N_is_below ["thing", "bound"] (defScope s_is_below) := ⟨rfl, rfl, rfl, by decide +kernel, rfl, by decide +kernel, by decide +kernel⟩
abbrev s_need : Stmt := topS 8
abbrev N_need : List Str := ["fits", "word"]
theorem sc_need : FnScope N_need ["fits", "word"] (defScope s_need) := ⟨rfl, rfl, rfl, by decide +kernel, rfl, by decide +kernel, by decide +kernel⟩
abbrev s_is_shape : Stmt := topS 11
abbrev N_is_shape : List Str := ["thing"]
theorem sc_is_shape : FnScope N_is_shape ["thing"] (defScope s_is_shape) := ⟨rfl, rfl, rfl, by decide +kernel, rfl, by decide +kernel, by decide +kernel⟩
abbrev s_has_forks_of : Stmt := topS 12
abbrev N_has_forks_of : List Str := ["thing", "least", "left", "part"]
theorem sc_has_forks_of : FnScope N_has_forks_of ["thing", "least"] (defScope s_has_forks_of) := ⟨rfl, rfl, rfl, by decide +kernel, rfl, by decide +kernel, by decide +kernel⟩
abbrev s_need_shape : Stmt := topS 13
abbrev N_need_shape : List Str := ["form", "word"]
theorem sc_need_shape : FnScope N_need_shape ["form", "word"] (defScope s_need_shape) := ⟨rfl, rfl, rfl, by decide +kernel, rfl, by decide +kernel, by decide +kernel⟩
abbrev s_ShapeTree_init : Stmt := inClass (topS 15) 0
abbrev N_ShapeTree_init : List Str := ["self", "form"]
theorem sc_ShapeTree_init : FnScope N_ShapeTree_init ["self", "form"] (defScope s_ShapeTree_init) := ⟨rfl, rfl, rfl, by decide +kernel, rfl, by decide +kernel, by decide +kernel⟩
abbrev s_ShapeTree_grow : Stmt := inClass (topS 15) 1
abbrev N_ShapeTree_grow : List Str := ["self", "bough", "above", "side", "node", "path", "kids", "place", "kid"]
theorem sc_ShapeTree_grow : FnScope N_ShapeTree_grow ["self", "bough", "above", "side"] (defScope s_ShapeTree_grow) := ⟨rfl, rfl, rfl, by decide +kernel, rfl, by decide +kernel, by decide +kernel⟩
abbrev s_ShapeTree_form_of : Stmt := inClass (topS 15) 2
abbrev N_ShapeTree_form_of : List Str := ["self"]
theorem sc_ShapeTree_form_of : FnScope N_ShapeTree_form_of ["self"] (defScope s_ShapeTree_form_of) := ⟨rfl, rfl, rfl, by decide +kernel, rfl, by decide +kernel, by decide +kernel⟩
abbrev s_ShapeTree_bough_of : Stmt := inClass (topS 15) 3
abbrev N_ShapeTree_bough_of : List Str := ["self", "node"]
theorem sc_ShapeTree_bough_of : FnScope N_ShapeTree_bough_of ["self", "node"] (defScope s_ShapeTree_bough_of) := ⟨rfl, rfl, rfl, by decide +kernel, rfl, by decide +kernel, by decide +kernel⟩
abbrev s_ShapeTree_parent_of : Stmt := inClass (topS 15) 4
abbrev N_ShapeTree_parent_of : List Str := ["self", "node"]
theorem sc_ShapeTree_parent_of : FnScope N_ShapeTree_parent_of ["self", "node"] (defScope s_ShapeTree_parent_of) := ⟨rfl, rfl, rfl, by decide +kernel, rfl, by decide +kernel, by decide +kernel⟩
abbrev s_ShapeTree_kids_of : Stmt := inClass (topS 15) 5
abbrev N_ShapeTree_kids_of : List Str := ["self", "node"]
theorem sc_ShapeTree_kids_of : FnScope N_ShapeTree_kids_of ["self", "node"] (defScope s_ShapeTree_kids_of) := ⟨rfl, rfl, rfl, by decide +kernel, rfl, by decide +kernel, by decide +kernel⟩
abbrev s_ShapeTree_depth_of : Stmt := inClass (topS 15) 6
abbrev N_ShapeTree_depth_of : List Str := ["self", "node"]
theorem sc_ShapeTree_depth_of : FnScope N_ShapeTree_depth_of ["self", "node"] (defScope s_ShapeTree_depth_of) := ⟨rfl, rfl, rfl, by decide +kernel, rfl, by decide +kernel, by decide +kernel⟩
abbrev s_ShapeTree_low_of : Stmt := inClass (topS 15) 7
abbrev N_ShapeTree_low_of : List Str := ["self", "node"]
theorem sc_ShapeTree_low_of : FnScope N_ShapeTree_low_of ["self", "node"] (defScope s_ShapeTree_low_of) := ⟨rfl, rfl, rfl, by decide +kernel, rfl, by decide +kernel, by decide +kernel⟩
abbrev s_ShapeTree_high_of : Stmt := inClass (topS 15) 8
abbrev N_ShapeTree_high_of : List Str := ["self", "node"]
theorem sc_ShapeTree_high_of : FnScope N_ShapeTree_high_of ["self", "node"] (defScope s_ShapeTree_high_of) := ⟨rfl, rfl, rfl, by decide +kernel, rfl, by decide +kernel, by decide +kernel⟩
abbrev s_ShapeTree_node_of : Stmt := inClass (topS 15) 9
abbrev N_ShapeTree_node_of : List Str := ["self", "queue"]
theorem sc_ShapeTree_node_of : FnScope N_ShapeTree_node_of ["self", "queue"] (defScope s_ShapeTree_node_of) := ⟨rfl, rfl, rfl, by decide +kernel, rfl, by decide +kernel, by decide +kernel⟩
abbrev s_ShapeTree_queue_at : Stmt := inClass (topS 15) 10
abbrev N_ShapeTree_queue_at : List Str := ["self", "node"]
theorem sc_ShapeTree_queue_at : FnScope N_ShapeTree_queue_at ["self", "node"] (defScope s_ShapeTree_queue_at) := ⟨rfl, rfl, rfl, by decide +kernel, rfl, by decide +kernel, by decide +kernel⟩
abbrev s_ShapeTree_path_of : Stmt := inClass (topS 15) 11
abbrev N_ShapeTree_path_of : List Str := ["self", "queue"]
theorem sc_ShapeTree_path_of : FnScope N_ShapeTree_path_of ["self", "queue"] (defScope s_ShapeTree_path_of) := ⟨rfl, rfl, rfl, by decide +kernel, rfl, by decide +kernel, by decide +kernel⟩
abbrev s_ShapeTree_meet_of : Stmt := inClass (topS 15) 12
abbrev N_ShapeTree_meet_of : List Str := ["self", "one", "other"]
theorem sc_ShapeTree_meet_of : FnScope N_ShapeTree_meet_of ["self", "one", "other"] (defScope s_ShapeTree_meet_of) := ⟨rfl, rfl, rfl, by decide +kernel, rfl, by decide +kernel, by decide +kernel⟩
abbrev s_ShapeTree_lies_in : Stmt := inClass (topS 15) 13
abbrev N_ShapeTree_lies_in : List Str := ["self", "node", "top"]
theorem sc_ShapeTree_lies_in : FnScope N_ShapeTree_lies_in ["self", "node", "top"] (defScope s_ShapeTree_lies_in) := ⟨rfl, rfl, rfl, by decide +kernel, rfl, by decide +kernel, by decide +kernel⟩
abbrev s_ShapeTree_toward : Stmt := inClass (topS 15) 14
abbrev N_ShapeTree_toward : List Str := ["self", "node", "down"]
theorem sc_ShapeTree_toward : FnScope N_ShapeTree_toward ["self", "node", "down"] (defScope s_ShapeTree_toward) := ⟨rfl, rfl, rfl, by decide +kernel, rfl, by decide +kernel, by decide +kernel⟩
abbrev s_need_node : Stmt := topS 16
abbrev N_need_node : List Str := ["tree", "node", "word"]
theorem sc_need_node : FnScope N_need_node ["tree", "node", "word"] (defScope s_need_node) := ⟨rfl, rfl, rfl, by decide +kernel, rfl, by decide +kernel, by decide +kernel⟩
abbrev s_need_queue : Stmt := topS 17
abbrev N_need_queue : List Str := ["tree", "queue", "word"]
theorem sc_need_queue : FnScope N_need_queue ["tree", "queue", "word"] (defScope s_need_queue) := ⟨rfl, rfl, rfl, by decide +kernel, rfl, by decide +kernel, by decide +kernel⟩
abbrev s_is_within : Stmt := topS 18
abbrev N_is_within : List Str := ["tree", "node", "top"]
theorem sc_is_within : FnScope N_is_within ["tree", "node", "top"] (defScope s_is_within) := ⟨rfl, rfl, rfl, by decide +kernel, rfl, by decide +kernel, by decide +kernel⟩
abbrev s_meet_in : Stmt := topS 19
abbrev N_meet_in : List Str := ["tree", "one", "other", "top"]
theorem sc_meet_in : FnScope N_meet_in ["tree", "one", "other"] (defScope s_meet_in) := ⟨rfl, rfl, rfl, by decide +kernel, rfl, by decide +kernel, by decide +kernel⟩
abbrev s_side_toward : Stmt := topS 20
abbrev N_side_toward : List Str := ["tree", "node", "down", "step"]
theorem sc_side_toward : FnScope N_side_toward ["tree", "node", "down"] (defScope s_side_toward) := ⟨rfl, rfl, rfl, by decide +kernel, rfl, by decide +kernel, by decide +kernel⟩
abbrev s_law_tape : Stmt := topS 22
abbrev N_law_tape : List Str := ["script", "greats", "state", "cell", "code"]
theorem sc_law_tape : FnScope N_law_tape ["script"] (defScope s_law_tape) := ⟨rfl, rfl, rfl, by decide +kernel, rfl, by decide +kernel, by decide +kernel⟩
abbrev s_law_pick : Stmt := topS 23
abbrev N_law_pick : List Str := ["tape", "span", "greats", "value"]
theorem sc_law_pick : FnScope N_law_pick ["tape", "span"] (defScope s_law_pick) := ⟨rfl, rfl, rfl, by decide +kernel, rfl, by decide +kernel, by decide +kernel⟩
abbrev s_law_shut : Stmt := topS 24
abbrev N_law_shut : List Str := ["rows", "row"]
theorem sc_law_shut : FnScope N_law_shut ["rows"] (defScope s_law_shut) := ⟨rfl, rfl, rfl, by decide +kernel, rfl, by decide +kernel, by decide +kernel⟩
abbrev s_law_made : Stmt := topS 25
abbrev N_law_made : List Str := ["tape", "most", "room", "rows", "deeps", "leaves", "turn", "spot", "more", "grows", "kid", "made"]
theorem sc_law_made : FnScope N_law_made ["tape", "most", "room"] (defScope s_law_made) := ⟨rfl, rfl, rfl, by decide +kernel, rfl, by decide +kernel, by decide +kernel⟩
abbrev s_law_places : Stmt := topS 26
abbrev N_law_places : List Str := ["shape", "places", "spot", "place"]
theorem sc_law_places : FnScope N_law_places ["shape"] (defScope s_law_places) := ⟨rfl, rfl, rfl, by decide +kernel, rfl, by decide +kernel, by decide +kernel⟩
abbrev s_law_leaves : Stmt := topS 27
abbrev N_law_leaves : List Str := ["places", "ahead", "leaves", "spot"]
theorem sc_law_leaves : FnScope N_law_leaves ["places"] (defScope s_law_leaves) := ⟨rfl, rfl, rfl, by decide +kernel, rfl, by decide +kernel, by decide +kernel⟩
abbrev s_law_bough : Stmt := topS 28
abbrev N_law_bough : List Str := ["shape", "place", "made", "spot"]
theorem sc_law_bough : FnScope N_law_bough ["shape", "place"] (defScope s_law_bough) := ⟨rfl, rfl, rfl, by decide +kernel, rfl, by decide +kernel, by decide +kernel⟩
abbrev s_law_same : Stmt := topS 29
abbrev N_law_same : List Str := ["mine", "due", "spot"]
theorem sc_law_same : FnScope N_law_same ["mine", "due"] (defScope s_law_same) := ⟨rfl, rfl, rfl, by decide +kernel, rfl, by decide +kernel, by decide +kernel⟩
abbrev s_law_due : Stmt := topS 30
abbrev N_law_due : List Str := ["shape", "places", "leaves", "way", "spot", "place", "size", "kids", "turn", "leaf", "low"]
theorem sc_law_due : FnScope N_law_due ["shape", "places", "leaves", "way", "spot"] (defScope s_law_due) := ⟨rfl, rfl, rfl, by decide +kernel, rfl, by decide +kernel, by decide +kernel⟩
abbrev s_law_ask : Stmt := topS 31
abbrev N_law_ask : List Str := ["tree", "way", "number", "named"]
theorem sc_law_ask : FnScope N_law_ask ["tree", "way", "number", "named"] (defScope s_law_ask) := ⟨rfl, rfl, rfl, by decide +kernel, rfl, by decide +kernel, by decide +kernel⟩
abbrev s_law_ask_two : Stmt := topS 32
abbrev N_law_ask_two : List Str := ["tree", "way", "first", "second", "named"]
theorem sc_law_ask_two : FnScope N_law_ask_two ["tree", "way", "first", "second", "named"] (defScope s_law_ask_two) := ⟨rfl, rfl, rfl, by decide +kernel, rfl, by decide +kernel, by decide +kernel⟩
abbrev s_law_told : Stmt := topS 33
abbrev N_law_told : List Str := ["tree", "way", "first", "second", "named", "e"]
theorem sc_law_told : FnScope N_law_told ["tree", "way", "first", "second", "named"] (defScope s_law_told) := ⟨rfl, rfl, rfl, by decide +kernel, rfl, by decide +kernel, by decide +kernel⟩
abbrev s_law_node_right : Stmt := topS 34
abbrev N_law_node_right : List Str := ["tree", "shape", "places", "leaves", "spot", "named", "way", "due"]
theorem sc_law_node_right : FnScope N_law_node_right ["tree", "shape", "places", "leaves", "spot", "named"] (defScope s_law_node_right) := ⟨rfl, rfl, rfl, by decide +kernel, rfl, by decide +kernel, by decide +kernel⟩
abbrev s_law_queue_right : Stmt := topS 35
abbrev N_law_queue_right : List Str := ["tree", "places", "leaves", "spot", "named", "leaf", "due", "size"]
theorem sc_law_queue_right : FnScope N_law_queue_right ["tree", "places", "leaves", "spot", "named"] (defScope s_law_queue_right) := ⟨rfl, rfl, rfl, by decide +kernel, rfl, by decide +kernel, by decide +kernel⟩
abbrev s_law_pair_right : Stmt := topS 36
abbrev N_law_pair_right : List Str := ["tree", "places", "first", "second", "named", "place", "mate", "size", "spot", "due"]
theorem sc_law_pair_right : FnScope N_law_pair_right ["tree", "places", "first", "second", "named"] (defScope s_law_pair_right) := ⟨rfl, rfl, rfl, by decide +kernel, rfl, by decide +kernel, by decide +kernel⟩
abbrev s_law_odd : Stmt := topS 37
abbrev N_law_odd : List Str := ["tape", "many", "odd"]
theorem sc_law_odd : FnScope N_law_odd ["tape", "many"] (defScope s_law_odd) := ⟨rfl, rfl, rfl, by decide +kernel, rfl, by decide +kernel, by decide +kernel⟩
abbrev s_law_refuses : Stmt := topS 38
abbrev N_law_refuses : List Str := ["tape", "tree", "places", "leaves", "named", "way", "due", "bad", "good", "firsts", "seconds", "mate"]
theorem sc_law_refuses : FnScope N_law_refuses ["tape", "tree", "places", "leaves", "named"] (defScope s_law_refuses) := ⟨rfl, rfl, rfl, by decide +kernel, rfl, by decide +kernel, by decide +kernel⟩
abbrev s_law_unmade : Stmt := topS 39
abbrev N_law_unmade : List Str := ["item", "e"]
theorem sc_law_unmade : FnScope N_law_unmade ["item"] (defScope s_law_unmade) := ⟨rfl, rfl, rfl, by decide +kernel, rfl, by decide +kernel, by decide +kernel⟩
abbrev s_law_tree_right : Stmt := topS 40
abbrev N_law_tree_right : List Str := ["tape", "tree", "shape", "named", "places", "leaves", "many", "spots", "turn", "spot", "first", "second", "size"]
theorem sc_law_tree_right : FnScope N_law_tree_right ["tape", "tree", "shape", "named"] (defScope s_law_tree_right) := ⟨rfl, rfl, rfl, by decide +kernel, rfl, by decide +kernel, by decide +kernel⟩
abbrev s_law : Stmt := topS 41
abbrev N_law : List Str := ["script", "tape", "sizes", "shape", "lesser", "tree", "other_tree", "places", "leaves", "spot", "odd", "turn"]
theorem sc_law : FnScope N_law ["script"] (defScope s_law) := ⟨rfl, rfl, rfl, by decide +kernel, rfl, by decide +kernel, by decide +kernel⟩
end K19

set_option Elab.async false
set_option linter.all false
set_option maxRecDepth 100000
set_option maxHeartbeats 2000000
namespace K19
open PySem PySem.Spec PyProof.Rows L2

/-! ### kinds of values -/
/-- the kinds that come: by the name of the type -/
def KindV (K : PySem.W.Frag) (H : Hp) (x : V) (t : String) : Prop := TyX K H x (.type t) ∧ (t = "int" ∨ t = "bool" ∨ t = "NoneType" ∨ t = "str" ∨ t = "tuple" ∨ t = "list")
/-- a value seen as an integer, or none -/
def NumV (K : PySem.W.Frag) (H : Hp) (x : V) : Option Int → Prop
  | some i => x = .int i
  | none => ∃ t, KindV K H x t ∧ t ≠ "int"
theorem kind_int {K : PySem.W.Frag} {H : Hp} (i : Int) : KindV K H (.int i) "int" := ⟨.base (.int i), .inl rfl⟩
theorem kind_bl {K : PySem.W.Frag} {H : Hp} (b : Bool) : KindV K H (.bl b) "bool" := ⟨.base (.bl b), .inr (.inl rfl)⟩
theorem kind_non {K : PySem.W.Frag} {H : Hp} : KindV K H .non "NoneType" := ⟨.base .non, .inr (.inr (.inl rfl))⟩
theorem kind_str {K : PySem.W.Frag} {H : Hp} (s : Str) : KindV K H (.str s) "str" := ⟨.base (.str s), .inr (.inr (.inr (.inl rfl)))⟩
theorem kind_tup {K : PySem.W.Frag} {H : Hp} {a : Addr} {xs : List V} (h : H a = some (.tup xs)) : KindV K H (.ref a) "tuple" := ⟨.base (.tup h), .inr (.inr (.inr (.inr (.inl rfl))))⟩
theorem kind_lst {K : PySem.W.Frag} {H : Hp} {a : Addr} {xs : List V} (h : H a = some (.lst xs)) : KindV K H (.ref a) "list" := ⟨.base (.lst h), .inr (.inr (.inr (.inr (.inr rfl))))⟩
theorem kit_int {t : String} (h : t = "int" ∨ t = "bool" ∨ t = "NoneType" ∨ t = "str" ∨ t = "tuple" ∨ t = "list") : kitB t "int" = some (t == "int" || t == "bool") := by
  rcases h with rfl | rfl | rfl | rfl | rfl | rfl <;> decide +kernel
theorem kit_bool {t : String} (h : t = "int" ∨ t = "bool" ∨ t = "NoneType" ∨ t = "str" ∨ t = "tuple" ∨ t = "list") : kitB t "bool" = some (t == "bool") := by
  rcases h with rfl | rfl | rfl | rfl | rfl | rfl <;> decide +kernel
theorem kit_tup {t : String} (h : t = "int" ∨ t = "bool" ∨ t = "NoneType" ∨ t = "str" ∨ t = "tuple" ∨ t = "list") : kitB t "tuple" = some (t == "tuple") := by
  rcases h with rfl | rfl | rfl | rfl | rfl | rfl <;> decide +kernel
theorem kit_str {t : String} (h : t = "int" ∨ t = "bool" ∨ t = "NoneType" ∨ t = "str" ∨ t = "tuple" ∨ t = "list") : kitB t "str" = some (t == "str") := by
  rcases h with rfl | rfl | rfl | rfl | rfl | rfl <;> decide +kernel
abbrev tIsi (K : PySem.W.Frag) (i : Nat) (c : String) : TE := tCB (rIsi K) (tCons (tVar i) (tCons (tC (.ty c)) tNil))
theorem isi_read {K : PySem.W.Frag} {σ : L2.St} {H : Hp} {i : Nat} {x : V} {c t : String} {b : Bool} {Q : VK} (hσ : σ[i]? = some (some x)) (ht : TyX K H x (.type t)) (hk : kitB t c = some b) (q : Q (.bl b) H) : tIsi K i c σ H Q :=
  ⟨x, hσ, x, .ty c, .type t, .type c, b, rfl, .ty c, ht, kit_ty hk, q⟩
/-! ### the top's facts -/
structure Txt (K : PySem.W.Frag) (mg : Str → Option Value) : Prop where
  isinstance : mg "isinstance" = none
  int : mg "int" = none
  bool : mg "bool" = none
  tuple : mg "tuple" = none
  str : mg "str" = none
  len : mg "len" = none
  range : mg "range" = none
  enumerate : mg "enumerate" = none
  sorted : mg "sorted" = none
  all : mg "all" = none
  min : mg "min" = none
  list : mg "list" = none
section
variable {P : Program} {w : World} {K : PySem.W.Frag} {mg : Str → Option Value} {base : Heap}
/-! ### is_integer, is_number, is_below -/
def spInteger (K : PySem.W.Frag) : Sp := fun vs H Q _ => ∃ x o, vs = [x] ∧ NumV K H x o ∧ Q (.bl o.isSome) H
theorem ok_is_integer {f : Addr} {fd : FuncData} (F : Fun K "is_integer" "is_integer" s_is_integer f fd) (T : Txt K mg) : FnOk P w K mg base CX0 1 f fd ["thing"] (spInteger K) := by
  refine F.ok sc_is_integer (fun vs H Q E h => ?_) (fun cdv A outer s H vs Q E hr h => ?_)
  · obtain ⟨x, o, rfl, _⟩ := h
    rfl
  obtain ⟨x, o, rfl, hx, q⟩ := h
  refine ⟨_, pss_one (ps_ret (pe_and (pe_callB call_isi (by rfl) T.isinstance boot_isinstance (pa_cons (pv 0) (pa_cons (pe_bltn (v := .ty "int") (by rfl) T.int boot_int rfl) pa_nil)))
    (pe_one (pe_not (pe_callB call_isi (by rfl) T.isinstance boot_isinstance (pa_cons (pv 0) (pa_cons (pe_bltn (v := .ty "bool") (by rfl) T.bool (by decide +kernel) rfl) pa_nil))))))), ?_⟩
  cases o with
  | some i =>
    obtain rfl : x = .int i := hx
    refine isi_read rfl (kind_int i).1 (kit_int (kind_int (K := K) (H := H) i).2) ⟨_, rfl, ?_⟩
    refine iteT ?_
    exact isi_read rfl (kind_int i).1 (kit_bool (kind_int (K := K) (H := H) i).2) ⟨_, rfl, q⟩
  | none =>
    obtain ⟨t, ht, hn⟩ := hx
    refine isi_read rfl ht.1 (kit_int ht.2) ⟨_, rfl, ?_⟩
    have e1 : (t == "int") = false := by simpa using hn
    rw [e1, Bool.false_or]
    cases e2 : (t == "bool") with
    | false => exact iteF q
    | true =>
      refine iteT ?_
      refine isi_read rfl ht.1 (kit_bool ht.2) ⟨_, rfl, ?_⟩
      rw [e2]
      exact q
end
end K19

set_option Elab.async false
set_option linter.all false
set_option maxRecDepth 100000
set_option maxHeartbeats 4000000
namespace L2
open PySem PySem.Spec PyProof.Rows
/-! ### a def by its name, with what it promises -/
structure DefAt (K : PySem.W.Frag) (mg : Str → Option Value) (x : Str) (st : Stmt) (ps : List Str) : Prop where
  ex : ∃ (f : Addr) (fd : FuncData), Fun K x x st f fd ∧ mg x = some (.ref f) ∧ Binds K fd ps []
structure CalX (P : Program) (w : World) (K : PySem.W.Frag) (mg : Str → Option Value) (base : Heap) (CX : CXT) (k : Nat) (x : Str) (ps : List Str) (sp : Sp) : Prop where
  ex : ∃ (f : Addr) (fd : FuncData), FnOk P w K mg base CX k f fd ps sp ∧ mg x = some (.ref f) ∧ PySem.W.keepIn K (.ref f) = true ∧ Binds K fd ps []
section
variable {P : Program} {w : World} {K : PySem.W.Frag} {mg : Str → Option Value} {base : Heap} {x : Str} {st : Stmt} {N ps : List Str} {k j : Nat} {sp : Sp} {CX : CXT}
theorem CalX.mono (c : CalX P w K mg base CX k x ps sp) (h : k ≤ j) : CalX P w K mg base CX j x ps sp := by
  obtain ⟨f, fd, F, a, b, d⟩ := c.ex
  exact ⟨f, fd, F.mono h, a, b, d⟩
theorem DefAt.ok (D : DefAt K mg x st ps) (S : FnScope N ps (defScope st)) (len : ∀ vs H Q E, sp vs H Q E → vs.length = ps.length)
    (hbody : ∀ (f : Addr) (cdv : Value) (A : Around) (outer : List Env) (s : Shared) (H : Hp) (vs : List V) (Q : VK) (E : XK), Room k (A.deeper (envOfC x (defScope st) s.heap.objs.size f cdv)) → sp vs H Q E →
      ∃ t, PSs (cxOf CX0 P w K mg base N x (defScope st) f cdv A outer s H E).nox (defBody st) t ∧ t { nx := fun _ H' => Q .non H', rt := Q } (start N vs) H) : CalX P w K mg base CX0 (k + 1) x ps sp := by
  obtain ⟨f, fd, F, m, b⟩ := D.ex
  exact ⟨f, fd, F.ok S len (hbody f), m, F.kp, b⟩
end
/-! a def that may raise -/
section
variable {P : Program} {w : World} {K : PySem.W.Frag} {mg : Str → Option Value} {base : Heap} {x : Str} {st : Stmt} {N ps : List Str} {k j : Nat} {sp : Sp}
theorem DefAt.okX (D : DefAt K mg x st ps) (S : FnScope N ps (defScope st)) (len : ∀ vs H Q E, sp vs H Q E → vs.length = ps.length)
    (hbody : ∀ (f : Addr) (cdv : Value) (A : Around) (outer : List Env) (s : Shared) (H : Hp) (vs : List V) (Q : VK) (E : XK), Room k (A.deeper (envOfC x (defScope st) s.heap.objs.size f cdv)) → sp vs H Q E →
      ∃ t, PSs (cxOf (L2.CX P w) P w K mg base N x (defScope st) f cdv A outer s H E) (defBody st) t ∧ t { nx := fun _ H' => Q .non H', rt := Q } (start N vs) H) : CalX P w K mg base (L2.CX P w) (k + 1) x ps sp := by
  obtain ⟨f, fd, F, m, b⟩ := D.ex
  exact ⟨f, fd, F.okX S len (hbody f), m, F.kp, b⟩
end
section
variable {X : Cx} {CX : CXT} {j k : Nat} {x : Str} {ps : List Str} {sp : Sp} {E : XK} {p pos : Pos} {e : Expr} {es : List Expr} {t : TA}
theorem pe_cx (c : CalX X.prog X.w X.K X.mg X.base CX k x ps sp) (hr : Room j X.A) (hk : k ≤ j) (hg : Gl X x) (hx : Passes CX X E) (ha : PA X (e :: es) t)
    (hdb : (x == ("__debug__" : Str)) = false := by decide) (he : starEach (e :: es) X.env = (false, eval e X.env) :: starEach es X.env := by rfl) (hpl : (backTo pos (starEach es X.env)).any (·.1) = false := by rfl) :
    PE X (.Call (.Name x p) (e :: es) [] pos) (tCall sp [] E t) := by
  obtain ⟨f, fd, F, hm, kp, b⟩ := c.ex
  exact pe_call F (hr.mono hk) hg hm kp b .nil hx ha hdb he hpl
/-- a callee that lets nothing out -/
theorem pe_c0 (c : CalX X.prog X.w X.K X.mg X.base CX0 k x ps sp) (hr : Room j X.A) (hk : k ≤ j) (hg : Gl X x) (ha : PA X (e :: es) t)
    (hdb : (x == ("__debug__" : Str)) = false := by decide) (he : starEach (e :: es) X.env = (false, eval e X.env) :: starEach es X.env := by rfl) (hpl : (backTo pos (starEach es X.env)).any (·.1) = false := by rfl) :
    PE X (.Call (.Name x p) (e :: es) [] pos) (tCall sp [] E0 t) := pe_cx c hr hk hg pass0 ha hdb he hpl
end
/-! ### xs.extend(t), t a tuple -/
theorem list_extend_tup (l : Addr) (items : Array Value) (n : Nat) (b : Addr) (ob : Obj) (items2 : Array Value) (n2 : Nat) (hs0 : ¬(!items.isEmpty && Builtin.List.listTooLong (items.size + items2.size)) = true) (hs1 : items.size ≤ sizeLine) (hs2 : items.size + items2.size ≤ sizeLine + 1) :
    Meets (Builtin.«list.extend» ⟨[.ref l, .ref b], []⟩) (fun _ R s => s.heap.get? l = some { cls := .type "list", dict := none, data := .seq items n, slots := #[] } ∧ s.heap.get? b = some ob ∧ ob.cls = .type "tuple" ∧ ob.data = .seq items2 n2 ∧ R (.ok (.ret Value.none)) { s with heap := s.heap.update l (Obj.mapSeq fun x => x ++ items2), toks := s.toks }) :=
  .of_wp fun prog w A R s h => by
    obtain ⟨hp, g, d, tk, os⟩ := s
    obtain ⟨hl, hb, hc, hd, h⟩ := h
    have hz' : (items ++ items2).size ≤ sizeLine + 1 := by rw [Array.size_append]; exact hs2
    show wpAny _ A.in1 (Builtin.List.listExtendWith (.ref l) (.ref b) .none) _ _ _
    unfold Builtin.List.listExtendWith
    refine wpAny_bind (wpAny_typeOf ⟨ob, hb, hc⟩ ?_)
    have h1 : (Builtin.List.listSameRef (.ref l) (.ref b) || Value.type "tuple" == Value.type "list" || Value.type "tuple" == Value.type "tuple") = true := by simp
    simp only [h1, if_true]
    refine wpAny_bind ?_
    unfold Builtin.List.listItems
    refine wpAny_bind (wpAny_seqItems hb hd (wpAny_pure ?_))
    refine wpAny_bind ?_
    refine wpAny_bind (wpAny_seqItems hl rfl (wpAny_pure ?_))
    simp only [hs0]
    show wpAny _ A.in1 (updateSeq l (· ++ items2) >>= fun _ => ret .none) _ _ _
    refine wpAny_bind (wpAny_updateSeq hl rfl ?_ hs1 hz')
    exact wpAny_pure ⟨_, rfl, h⟩
section
variable {X : Cx}
def rExtendT (K : PySem.W.Frag) : V → List V → Hp → VK → Prop := fun x vs H Q => ∃ l b xs zs, x = .ref l ∧ vs = [.ref b] ∧ H l = some (.lst xs) ∧ SqT K H b zs ∧ xs.length + zs.length ≤ sizeLine ∧ Q .non (upd H l (.lst (xs ++ zs)))
theorem mt_extendT : MtM X "list.extend" (rExtendT X.K) := by
  intro pins s σ H x vs v us Q I rx rv h
  obtain ⟨l, b, xs, zs, rfl, rfl, hH, hB, hz, q⟩ := h
  cases rx
  obtain ⟨u, rfl, ru⟩ := rv.one
  cases ru
  obtain ⟨z, its, n, r, hl, e⟩ := I.lstM hH
  obtain ⟨its2, r2, pl, z2⟩ := I.tuple hB
  obtain ⟨o2, e2, hc2, n2, hd2⟩ := pl
  have hl2 := r2.length
  have hsz : its.toArray.size + its2.toArray.size ≤ sizeLine := by rw [List.size_toArray, List.size_toArray]; omega
  have hlong : ¬ (!its.toArray.isEmpty && Builtin.List.listTooLong (its.toArray.size + its2.toArray.size)) = true := by
    rw [notLongL hsz, Bool.and_false]
    exact Bool.false_ne_true
  refine call_meets F.slot_list_extend ⟨_, e, rfl⟩ F.entry_list_extend (F.args_list_extend_2 _ _)
    (list_extend_tup l its.toArray n b o2 its2.toArray n2 hlong (by rw [List.size_toArray]; omega) (by omega)) ⟨e, e2, hc2, hd2, ?_⟩
  refine ⟨.non, _, I.lset (its' := its ++ its2) hH e (by simp) (r.append r2) ?_, rfl, q⟩
  rw [List.length_append]
  omega
end
/-! ### o.m(k = v, ..): keywords alone -/
def tMethK (C : Addr) (m : Str) (sp : Sp) (n : Nat) (gV : List V → List V) (E : XK) (ta : TE) (tk : TA) : TE := fun σ H Q => ta σ H fun x H1 => ∃ a dx fs, x = .ref a ∧ H1 a = some (.ins C dx fs) ∧ fs.lookup m = none ∧
  tk σ H1 fun zs H2 => zs.length = n ∧ sp (x :: gV zs) H2 Q E
structure KwB (fd : FuncData) (ps ks : List Str) (g : {α : Type} → List α → List α) : Prop where
  to : ∀ (s : Shared) (u : Value) (ws : List Value), ws.length = ks.length → BindsTo s fd ⟨[u], ks.zip ws⟩ (ps.zip (u :: g ws))
  rel : ∀ {zs : List V} {ws : List Value}, Vals zs ws → Vals (g zs) (g ws)
section
variable {X : Cx} {CX : CXT} {k : Nat} {f C : Addr} {fd : FuncData} {ps ks : List Str} {sp : Sp} {E : XK} {x m : Str} {p pos apos : Pos} {o : Expr} {kws : List Keyword} {ta : TE} {tk : TA} {g : {α : Type} → List α → List α}
theorem run_kw {pins : List (Addr × Obj)} {σ : St} {H : Hp} {s : Shared} {Q : VK} {u : Value} {ws : List Value} {v : V} {zs : List V} (F : FnOk X.prog X.w X.K X.mg X.base CX k f fd ps sp) (hr : Room k X.A) (hb : KwB fd ps ks g) (hx : Passes CX X E)
    (I : Inv X pins σ H s) (r : RelV v u) (rz : Vals zs ws) (hl : zs.length = ks.length) (h : sp (v :: g zs) H Q E) : wpAny (model X.prog X.w) X.A (call (.ref f) [u] (ks.zip ws)) (EP X pins σ Q) X.xe s := by
  have r2 : Vals (v :: g zs) (u :: g ws) := .cons r (hb.rel rz)
  refine wpAny_call (codeAny_mono (F.run X.A X.stack s H ⟨[u], ks.zip ws⟩ (u :: g ws) (v :: g zs) Q E hr I.env0 (hb.to s u ws (rz.length.symm.trans hl)) r2 h) fun r s' hq => ?_)
  cases r with
  | error e => exact hx pins σ H s e s' I hq
  | ok fl =>
    cases fl with
    | ret u => exact I.after hq
    | next => exact False.elim hq
    | brk => exact False.elim hq
    | cont => exact False.elim hq
theorem pe_methK {pl : Sem Bool} (he : PE X o ta) (c : Cls X.K C) (hm : Meth X.K C m f) (F : FnOk X.prog X.w X.K X.mg X.base CX k f fd ps sp) (hr : Room k X.A) (hb : KwB fd ps ks g) (hx : Passes CX X E) (hkw : PK X kws tk)
    (ht : eval (.Call (.Attribute o m apos) [] kws pos) X.env = (do
      let ov ← eval o X.env
      standAt apos.atName
      let (f, first) ← holding [ov] (getMethod ov m pl)
      callWith pos f first (backTo pos (starEach [] X.env)) (backToKw pos (keywordEach kws X.env))) := by rfl)
    (hall : (backToKw pos (keywordEach kws X.env)).all (·.1.isSome) = true := by rfl) (hks : (backToKw pos (keywordEach kws X.env)).filterMap (·.1) = ks := by rfl)
    (hpl : ((backTo pos (starEach [] X.env)).any (·.1) || (backToKw pos (keywordEach kws X.env)).any (·.1.isNone)) = false := by rfl) :
    PE X (.Call (.Attribute o m apos) [] kws pos) (tMethK C m sp ks.length g E ta tk) := by
  refine ⟨fun pins s σ H Q I h => ?_⟩
  refine PySem.W.methodCall_KW (pl := pl) (thn (he.run pins s σ H _ I h) fun u s1 ⟨x, H1, I1, rx, a, dx, fs, ex, ea, l, q⟩ => ?_) ht
  subst ex
  obtain rfl : u = Value.ref a := rx
  refine getmeth_ok I1 ea c hm l ?_
  refine PySem.W.callWith_KW0 (first := [.ref a]) (h₀ := X.base) I.ok.mod.kin hm.kp hall ?_ hpl
  refine thn (hkw.run pos pins s1 σ H1 _ I1 q) fun ws s2 ⟨zs, H2, I2, rz, hl, q2⟩ => ⟨I2.kIn, ?_⟩
  rw [hks]
  exact run_kw (v := .ref a) F hr hb hx I2 (show RelV (V.ref a) (Value.ref a) from rfl) rz hl q2
end
/-! ### try: .. except C as n: ..; except ..: .. where only the first clause is met -/
def wAs1 (K : PySem.W.Frag) (c : Value) (i : Nat) (ts : Addr → Value → Option Addr → TS) (D : Ends) : WX := fun cls d σ H =>
  PySem.W.exmOne K cls c = some true ∧ ∀ a, H a = none → ts a cls d { nx := fun σ' H' => D.nx (σ'.set i none) H', rt := D.rt, bk := fun σ' H' => D.bk (σ'.set i none) H', ct := fun σ' H' => D.ct (σ'.set i none) H' } (σ.set i (some (.ref a))) H
section
variable {X : Cx} {x n : Str} {c : Value} {i : Nat} {body suite : List Stmt} {b₀ : Stmt} {np pos pos' : Pos} {hds : List ExceptHandler} {tb : WX → TS} {ts : Addr → Value → Option Addr → TS}
theorem ps_try_as2 (hs : X.stack = X.env :: X.outer) (hf : X.env.frame = some X.env.locals) (hN : X.N.Nodup) (hi : X.N[i]? = some n) (hln : X.env.kindOf n = some .local) (hc : Names X x c)
    (hb : ∀ (W : WX) (pn : List (Addr × Obj)) (xe : Value → Shared → Prop), Takes (X.tr pn xe) W → PassesOwn (model X.prog X.w) X.A X.env xe → PSs (X.tr pn xe) body (tb W))
    (hsu : ∀ (a : Addr) (oe : Obj) (cls : Value) (d : Option Addr) (pn : List (Addr × Obj)), Zc cls d oe → (∃ vs, oe.data = .fields vs) → PSs (X.suite a ((a, oe) :: pn)) (b₀ :: suite) (ts a cls d)) :
    PS X (.Try body (.ExceptHandler (some (.Name x np)) (some n) (b₀ :: suite) pos' :: hds) [] [] pos) (fun D σ H => tb (wAs1 X.K c i ts D) D σ H) := by
  refine ⟨fun pins s σ H D I h => ?_⟩
  have ok := I.ok
  have hfr : X.A.frames = some (X.env :: X.outer) := by rw [ok.frames, hs]
  have hloc : Loc X.env.scope n := .inl hln
  refine wpAny_Try_except ?_
  refine wpAny_mono ((hb (wAs1 X.K c i ts D) (X.pn ++ pins) (fun e s₁ => wpAny (model X.prog X.w) X.A (noteFrame e X.env) (fun _ s₂ => wpAny (model X.prog X.w) X.A (setFlight e none) (fun _ s₃ =>
    wpAny (model X.prog X.w) X.A (handleBy e X.env (.ExceptHandler (some (.Name x np)) (some n) (b₀ :: suite) pos' :: hds)) (SP X pins D) X.xe s₃) X.xe s₂) X.xe s₁) (fun u s' xx => ?_) PassesOwn.looking).run [] s σ H D (I.toTry _) h) (fun f s1 hsp => ?_) (fun e s1 he => he)
  · obtain ⟨a, B, sI, pins', σ', H', cls, d, rfl, J', nb, up, sky, na, os, ag, hb1, hyes⟩ := xx
    have J : Inv X pins σ' H' sI := J'.ofTry ok
    have sky' : Sky B (X.env :: X.outer) a (Zc cls d) X.env.locals s'.heap := by rw [← hs]; exact sky
    show wpAny (model X.prog X.w) X.A (noteFrame (.ref a) X.env) _ _ _
    refine Sky.land Zc.steady hfr hf sky' fun h3 fl3 up3 => ?_
    have J3 : Inv X pins σ' H' { s' with heap := h3 } := J.landed nb fl3.1 (up.trans up3) os ag
    obtain ⟨oe3, vs3, he3, hz3, hd3⟩ := fl3.there
    have notFr : ∀ {h : Heap} {o : Obj} {vs : Array Value}, h.FunFrames B (X.env :: X.outer) → h.get? a = some o → o.data = .fields vs → a ∉ frs (X.env :: X.outer) := fun {h o vs} ff e dd hm => by
      obtain ⟨_, o', e', hnf⟩ := ff.mem hm
      rw [e] at e'; cases e'
      exact hnf _ dd
    have nfr := notFr fl3.2.2.1 he3 hd3
    have nL : a ≠ X.env.locals := fun z => nfr (List.mem_filterMap.mpr ⟨X.env, List.mem_cons_self, by rw [hf, z]⟩)
    have nF : a ∉ X.fs := fun hm => by
      obtain ⟨e, he, q⟩ := List.mem_filterMap.mp hm
      exact nfr (List.mem_filterMap.mpr ⟨e, List.mem_cons_of_mem _ he, q⟩)
    have S3 := J3.suite he3 hd3 na nL nF
    refine wpAny_handleBy_cons (codeAny_handlers_test ?_) (by intro q; cases q)
    have LT : PySem.W.Looks (model X.prog X.w) h3 (typeOf (.ref a)) cls := fun A Q E s k q => wpAny_typeOf_ref (k _ _ he3) (by rw [hz3.1]; exact q)
    have LM := PySem.W.exm_one (M := model X.prog X.w) (J3.kIn) LT hb1
    have test : ∀ {Q : Value → Shared → Prop} {E : Value → Shared → Prop}, Q c { s' with heap := h3 } → wpAny (model X.prog X.w) (X.A.mark (some (.ref a))) (eval (.Name x np) X.env) Q E { s' with heap := h3 } := fun {Q E} q => by
      obtain ⟨hg, hdbg, hm | ⟨hm, hv, hnn⟩⟩ := hc
      · exact ld_glob (X := X.suite a ((a, oe3) :: (X.pn ++ pins))) S3 hg hm q hdbg
      · exact ld_blt (X := X.suite a ((a, oe3) :: (X.pn ++ pins))) S3 hg hm hv q hnn hdbg
    refine test (LM.here ?_)
    refine codeAny_handlers_suite_as ?_
    refine HandSPX.lands_againZ fl3 fun h4 fl4 up4 => ?_
    have J4 : Inv X pins σ' H' { s' with heap := h4 } := J.landed nb fl4.1 ((up.trans up3).trans up4) os ag
    obtain ⟨oe4, vs4, he4, hz4, hd4⟩ := fl4.there
    have S4 := J4.suite he4 hd4 na nL nF
    refine store_ok (X := X.suite a ((a, oe4) :: (X.pn ++ pins))) (v := .ref a) S4 hN hi hloc rfl (fun s5 S5 => ?_) (.inr hln)
    refine wpAny_mono ((hsu a oe4 cls d (X.pn ++ pins) hz4 ⟨_, hd4⟩).run [] s5 _ H' _ S5 (hyes a na)) (fun f s6 hsp => ?_) (fun _ _ z => False.elim z)
    have end_ : ∀ {σ6 : St} {H6 : Hp} {Q : Shared → Prop}, Inv (X.suite a ((a, oe4) :: (X.pn ++ pins))) [] σ6 H6 s6 → (∀ s7, Inv X pins (σ6.set i none) H6 s7 → Q s7) →
        wpAny (model X.prog X.w) X.A (do bindName X.env n .none; unbindBehindTheSuite X.env n pos') (fun _ s7 => Q s7) X.xe s6 := fun {σ6 H6 Q} S6 hq => gone_ok (S6.unsuite ok) hN hi hln hq
    cases f with
    | next =>
      obtain ⟨σ6, H6, S6, q6⟩ := hsp
      exact end_ S6 fun s7 J7 => ⟨_, _, J7, q6⟩
    | brk =>
      obtain ⟨σ6, H6, S6, q6⟩ := hsp
      exact end_ S6 fun s7 J7 => ⟨_, _, J7, q6⟩
    | cont =>
      obtain ⟨σ6, H6, S6, q6⟩ := hsp
      exact end_ S6 fun s7 J7 => ⟨_, _, J7, q6⟩
    | ret u =>
      obtain ⟨v6, σ6, H6, S6, r6, q6⟩ := hsp
      exact end_ S6 fun s7 J7 => ⟨_, _, _, J7, r6, q6⟩
  · cases f with
    | next =>
      obtain ⟨σ', H', J', q⟩ := hsp
      exact wpAny_execs_nil ⟨σ', H', J'.ofTry ok, q⟩
    | brk =>
      obtain ⟨σ', H', J', q⟩ := hsp
      exact ⟨σ', H', J'.ofTry ok, q⟩
    | cont =>
      obtain ⟨σ', H', J', q⟩ := hsp
      exact ⟨σ', H', J'.ofTry ok, q⟩
    | ret u =>
      obtain ⟨v, σ', H', J', r, q⟩ := hsp
      exact ⟨v, σ', H', J'.ofTry ok, r, q⟩
end
end L2

set_option Elab.async false
set_option linter.all false
set_option maxRecDepth 100000
set_option maxHeartbeats 4000000
namespace K19
open PySem PySem.Spec PyProof.Rows L2
/-- the class NotUsable at U, its __init__ at fI -/
structure NUT (K : PySem.W.Frag) (mg : Str → Option Value) (U fI : Addr) : Prop where
  gU : mg "NotUsable" = some (.ref U)
  ox : OexC K U
  xf : XfC K U
  nw : PySem.W.findIn K (.ref U) "word" = some none
  na : PySem.W.findIn K (.ref U) "at" = some none
  iC : PySem.W.findIn K (.ref U) "__init__" = some (some (.ref fI))
  tI : PySem.W.typeIn K (.ref fI) = some (.type "function")
  te : PySem.W.exmOne K (.ref U) (.ref U) = some true
  fn : ∃ fd, Fun K "__init__" "NotUsable.__init__" s_NotUsable_init fI fd ∧ Binds K fd ["self", "word", "at"] []
section
variable {P : Program} {w : World} {K : PySem.W.Frag} {mg : Str → Option Value} {base : Heap} {U fI : Addr}
/-! ### NotUsable.__init__ -/
def hInit (U a dx : Addr) (z : Str) (i : Int) (H : Hp) : Hp := upd (upd (upd H dx (exd dx [("word", .str z)])) a (exo a U (some dx))) dx (exd dx [("at", .int i), ("word", .str z)])
def spNU (U : Addr) : Sp := fun vs H Q _ => ∃ (a : Addr) (z : Str) (i : Int), vs = [.ref a, .str z, .int i] ∧ H a = some (exo a U none) ∧ ∀ dx, H dx = none → dx ≠ a → Q .non (hInit U a dx z i H)
theorem ok_nu (T : NUT K mg U fI) : ∃ fd, FnOk P w K mg base CX0 1 fI fd ["self", "word", "at"] (spNU U) ∧ Binds K fd ["self", "word", "at"] [] := by
  obtain ⟨fd, F, b⟩ := T.fn
  refine ⟨fd, F.ok sc_NotUsable_init (fun vs H Q E h => ?_) (fun cdv A outer s H vs Q E hr h => ?_), b⟩
  · obtain ⟨a, z, i, rfl, _⟩ := h
    rfl
  obtain ⟨a, z, i, rfl, ha, q⟩ := h
  refine ⟨_, pss_cons (ps_ost (pv 0) (pv 1)) (pss_one (ps_ost (pv 0) (pv 2))), ?_⟩
  refine ⟨_, rfl, _, rfl, a, U, rfl, T.ox, T.nw, .inl ⟨ha, fun dx hdx hne => ?_⟩⟩
  refine ⟨_, rfl, _, rfl, a, U, rfl, T.ox, T.na, .inr ⟨dx, [("word", .str z)], upd_same, ?_, (by show 1 ≤ 900; decide), ?_⟩⟩
  · rw [upd_ne hne, upd_same]
  · exact q dx hdx hne
/-! ### is_integer, is_number, is_below -/
theorem ok_integer (D : DefAt K mg "is_integer" s_is_integer ["thing"]) (T : Txt K mg) : CalX P w K mg base CX0 1 "is_integer" ["thing"] (spInteger K) := by
  obtain ⟨f, fd, F, m, b⟩ := D.ex
  exact ⟨f, fd, ok_is_integer F T, m, F.kp, b⟩
def numB : Option Int → Bool
  | some i => decide (0 ≤ i)
  | none => false
def spNumber (K : PySem.W.Frag) : Sp := fun vs H Q _ => ∃ x o, vs = [x] ∧ NumV K H x o ∧ Q (.bl (numB o)) H
theorem ok_number (D : DefAt K mg "is_number" s_is_number ["thing"]) (GI : CalX P w K mg base CX0 1 "is_integer" ["thing"] (spInteger K)) : CalX P w K mg base CX0 2 "is_number" ["thing"] (spNumber K) := by
  refine D.ok sc_is_number (fun vs H Q E h => ?_) (fun f cdv A outer s H vs Q E hr h => ?_)
  · obtain ⟨x, o, rfl, _⟩ := h
    rfl
  obtain ⟨x, o, rfl, hx, q⟩ := h
  refine ⟨_, pss_one (ps_ret (pe_and (pe_c0 GI hr (by decide) rfl (pa_cons (pv 0) pa_nil)) (pe_one (pe_cmpR op_ge (pv 0) pe_int (nomark _))))), ?_⟩
  refine ⟨_, rfl, x, o, rfl, hx, _, rfl, ?_⟩
  cases o with
  | none => exact iteF q
  | some i =>
    obtain rfl : x = .int i := hx
    exact iteT ⟨_, rfl, _, _, rfl, rfl, q⟩
def belowB (n : Int) : Option Int → Bool
  | some i => decide (0 ≤ i) && decide (i < n)
  | none => false
def spBelow (K : PySem.W.Frag) : Sp := fun vs H Q _ => ∃ (x : V) (o : Option Int) (n : Int), vs = [x, .int n] ∧ NumV K H x o ∧ Q (.bl (belowB n o)) H
theorem ok_below (D : DefAt K mg "is_below" s_is_below ["thing", "bound"]) (GN : CalX P w K mg base CX0 2 "is_number" ["thing"] (spNumber K)) : CalX P w K mg base CX0 3 "is_below" ["thing", "bound"] (spBelow K) := by
  refine D.ok sc_is_below (fun vs H Q E h => ?_) (fun f cdv A outer s H vs Q E hr h => ?_)
  · obtain ⟨x, o, n, rfl, _⟩ := h
    rfl
  obtain ⟨x, o, n, rfl, hx, q⟩ := h
  refine ⟨_, pss_one (ps_ret (pe_and (pe_c0 GN hr (by decide) rfl (pa_cons (pv 0) pa_nil)) (pe_one (pe_cmpR op_lt (pv 0) (pv 1) (nomark _))))), ?_⟩
  refine ⟨_, rfl, x, o, rfl, hx, _, rfl, ?_⟩
  cases o with
  | none => exact iteF q
  | some i =>
    obtain rfl : x = .int i := hx
    cases e : numB (some i) with
    | false =>
      refine iteF ?_
      have e2 : belowB n (some i) = false := by
        show (decide (0 ≤ i) && decide (i < n)) = false
        rw [show decide (0 ≤ i) = false from e, Bool.false_and]
      rw [e2] at q
      exact q
    | true =>
      refine iteT ⟨_, rfl, _, rfl, _, _, rfl, rfl, ?_⟩
      have e2 : belowB n (some i) = decide (i < n) := by
        show (decide (0 ≤ i) && decide (i < n)) = decide (i < n)
        rw [show decide (0 ≤ i) = true from e, Bool.true_and]
      rw [e2] at q
      exact q
/-! ### need -/
/-- the dict of the error -/
def xdO (z : Str) (i : Int) : HO := .xd [("at", .int i), ("word", .str z)]
def spNeed (U : Addr) : Sp := fun vs H Q E => ∃ (b : Bool) (z : Str), vs = [.bl b, .str z] ∧ (b = true → Q .non H) ∧ (b = false → ∀ d, H d = none → E (.ref U) (some d) (upd H d (xdO z (-1))))
theorem ok_need (D : DefAt K mg "need" s_need ["fits", "word"]) (T : NUT K mg U fI) : CalX P w K mg base (L2.CX P w) 3 "need" ["fits", "word"] (spNeed U) := by
  refine D.okX sc_need (fun vs H Q E h => ?_) (fun f cdv A outer s H vs Q E hr h => ?_)
  · obtain ⟨b, z, rfl, _⟩ := h
    rfl
  obtain ⟨b, z, rfl, q1, q2⟩ := h
  obtain ⟨fdI, FI, bI⟩ := ok_nu (P := P) (w := w) (base := base) T
  refine ⟨_, pss_one (ps_if (pt_not (pt_val (pv 0))) (pss_one (ps_raise rfl (takes_of rfl rfl rfl rfl) (pmk_oex T.ox T.iC T.tI FI hr bI .nil pass0 rfl T.gU (pa_cons (pv 1) (pa_cons (pe_un un_neg pe_int) pa_nil))))) pss_nil), ?_⟩
  refine ⟨_, rfl, b, rfl, ?_⟩
  cases b with
  | true => exact iteF (q1 rfl)
  | false =>
    refine iteT ?_
    refine ⟨_, rfl, 1, rfl, (by show 2 ≤ 1000; decide), fun a ha => ?_⟩
    refine ⟨a, z, -1, rfl, upd_same, fun dx hdx hne => ⟨rfl, dx, [("at", .int (-1)), ("word", .str z)], ?_, upd_same, ?_, ?_⟩⟩
    · show hInit U a dx z (-1) (upd H a (exo a U none)) a = _
      unfold hInit
      rw [upd_ne (Ne.symm hne), upd_same]
    · rw [upd_ne hne] at hdx
      exact hdx
    · have e : upd (del (hInit U a dx z (-1) (upd H a (exo a U none))) a) dx (.xd [("at", .int (-1)), ("word", .str z)]) = upd H dx (xdO z (-1)) := by
        funext y
        unfold hInit xdO
        by_cases h1 : y = dx
        · rw [h1, upd_same, upd_same]
        · rw [upd_ne h1, upd_ne h1]
          by_cases h2 : y = a
          · rw [h2, del_same, ha]
          · rw [del_ne h2, upd_ne h1, upd_ne h2, upd_ne h1, upd_ne h2]
      rw [e]
      rw [upd_ne hne] at hdx
      exact q2 rfl dx hdx
end
end K19

set_option Elab.async false
set_option linter.all false
set_option maxRecDepth 100000
set_option maxHeartbeats 4000000
namespace K19
open PySem PySem.Spec PyProof.Rows L2
/-! ### shapes: a tuple is the list of its children -/
/-- o: no (further) child; c k r: the child k, then those of r; x: a value that is no tuple -/
inductive Dt | x | o | c (k r : Dt)
namespace Dt
def len : Dt → Nat | c _ r => r.len + 1 | _ => 0
def size : Dt → Nat | c k r => k.size + r.size + 1 | _ => 1
def isx : Dt → Bool | x => true | _ => false
/-- the children as a list -/
def kids : Dt → List Dt | c k r => k :: r.kids | _ => []
/-- all is well at this node -/
def here (least : Nat) (t : Dt) : Bool := !t.isx && decide (t.len ≤ 6) && !(decide (0 < t.len) && decide (t.len < least))
/-- all is well at all nodes of the children -/
def deep (least : Nat) : Dt → Bool | c k r => here least k && deep least k && deep least r | _ => true
def good (least : Nat) (t : Dt) : Bool := here least t && deep least t
theorem kids_len : ∀ t : Dt, t.kids.length = t.len | x => rfl | o => rfl | c _ r => congrArg (· + 1) (kids_len r)
theorem kids_good (l : Nat) : ∀ t : Dt, deep l t = t.kids.all (good l)
  | x => rfl
  | o => rfl
  | c k r => by
    show (here l k && deep l k && deep l r) = ((here l k && deep l k) && r.kids.all (good l))
    rw [kids_good l r]
theorem size_pos : ∀ t : Dt, 1 ≤ t.size | x => Nat.le_refl 1 | o => Nat.le_refl 1 | c _ _ => Nat.le_add_left 1 _
def sizes (l : List Dt) : Nat := (l.map size).sum
theorem sizes_kids : ∀ t : Dt, sizes t.kids + 1 ≤ t.size + t.len
  | x => Nat.le_refl 1
  | o => Nat.le_refl 1
  | c k r => by
    have q := sizes_kids r
    show (k.size + sizes r.kids) + 1 ≤ k.size + r.size + 1 + (r.len + 1)
    omega
end Dt
/-- the values of a row -/
inductive DtF (K : PySem.W.Frag) (H : Hp) : List V → Dt → Prop
  | nil : DtF K H [] .o
  | bad {v : V} {ws : List V} {r : Dt} {t : String} (h : KindV K H v t) (n : t ≠ "tuple") (q : DtF K H ws r) : DtF K H (v :: ws) (.c .x r)
  | tup {a : Addr} {vs ws : List V} {k r : Dt} (h : SqT K H a vs) (p : DtF K H vs k) (q : DtF K H ws r) : DtF K H (.ref a :: ws) (.c k r)
/-- one value -/
def DtV (K : PySem.W.Frag) (H : Hp) (v : V) (t : Dt) : Prop := (t = .x ∧ ∃ s, KindV K H v s ∧ s ≠ "tuple") ∨ ∃ a vs, v = .ref a ∧ SqT K H a vs ∧ DtF K H vs t
theorem tyx_tup {K : PySem.W.Frag} {H : Hp} {a : Addr} {xs : List V} (h : SqT K H a xs) : TyX K H (.ref a) (.type "tuple") := by
  rcases h with (h | ⟨o, h⟩) | ⟨o, its, n, h1, h2, _⟩
  · exact .base (.tup h)
  · exact .fTuple h
  · exact .kTuple h1 h2
theorem kind_sqt {K : PySem.W.Frag} {H : Hp} {a : Addr} {xs : List V} (h : SqT K H a xs) : KindV K H (.ref a) "tuple" := ⟨tyx_tup h, by simp⟩
theorem DtF.no_x {K : PySem.W.Frag} {H : Hp} {vs : List V} {t : Dt} (h : DtF K H vs t) : t.isx = false := by
  cases h <;> rfl
theorem DtF.len {K : PySem.W.Frag} {H : Hp} : ∀ {vs : List V} {t : Dt}, DtF K H vs t → vs.length = t.len
  | _, _, .nil => rfl
  | _, _, .bad _ _ q => congrArg (· + 1) q.len
  | _, _, .tup _ _ q => congrArg (· + 1) q.len
theorem DtF.kids {K : PySem.W.Frag} {H : Hp} : ∀ {vs : List V} {t : Dt}, DtF K H vs t → Paired (DtV K H) vs t.kids
  | _, _, .nil => .nil
  | _, _, .bad h n q => .cons (.inl ⟨rfl, _, h, n⟩) q.kids
  | _, _, .tup h p q => .cons (.inr ⟨_, _, rfl, h, p⟩) q.kids
theorem same_sqt {K : PySem.W.Frag} {H H' : Hp} {a : Addr} {xs : List V} (e : Same H H') (h : SqT K H a xs) : SqT K H' a xs := by
  rcases h with (h | ⟨o, h⟩) | h
  · exact .inl (.inl (e _ _ h))
  · exact .inl (.inr ⟨o, e _ _ h⟩)
  · exact .inr h
theorem same_kind {K : PySem.W.Frag} {H H' : Hp} {v : V} {t : String} (e : Same H H') (h : KindV K H v t) : KindV K H' v t := by
  obtain ⟨h, z⟩ := h
  refine ⟨?_, z⟩
  cases h with
  | base h =>
    cases h with
    | non => exact .base .non
    | bl b => exact .base (.bl b)
    | int i => exact .base (.int i)
    | str s => exact .base (.str s)
    | flt s => exact .base (.flt s)
    | lst h => exact .base (.lst (e _ _ h))
    | frz h => exact .base (.frz (e _ _ h))
    | tup h => exact .base (.tup (e _ _ h))
    | dK h => exact .base (.dK (e _ _ h))
    | dT h => exact .base (.dT (e _ _ h))
  | byt b => exact .byt b
  | set h => exact .set (e _ _ h)
  | kList a b => exact .kList a b
  | kTuple a b => exact .kTuple a b
  | kDict a b => exact .kDict a b
  | fTuple h => exact .fTuple (e _ _ h)
  | fDict h => exact .fDict (e _ _ h)
theorem same_dtf {K : PySem.W.Frag} {H H' : Hp} (e : Same H H') : ∀ {vs : List V} {t : Dt}, DtF K H vs t → DtF K H' vs t
  | _, _, .nil => .nil
  | _, _, .bad h n q => .bad (same_kind e h) n (same_dtf e q)
  | _, _, .tup h p q => .tup (same_sqt e h) (same_dtf e p) (same_dtf e q)
theorem same_dtv {K : PySem.W.Frag} {H H' : Hp} {v : V} {t : Dt} (e : Same H H') (h : DtV K H v t) : DtV K H' v t := by
  rcases h with ⟨a, s, b, c⟩ | ⟨a, vs, b, c, d⟩
  · exact .inl ⟨a, s, same_kind e b, c⟩
  · exact .inr ⟨a, vs, b, same_sqt e c, same_dtf e d⟩
theorem Paired.mono {α β : Type} {F G : α → β → Prop} (h : ∀ a b, F a b → G a b) : ∀ {l₁ : List α} {l₂ : List β}, Paired F l₁ l₂ → Paired G l₁ l₂
  | _, _, .nil => .nil
  | _, _, .cons r t => .cons (h _ _ r) (Paired.mono h t)
theorem Paired.app {α β : Type} {F : α → β → Prop} : ∀ {l₁ m₁ : List α} {l₂ m₂ : List β}, Paired F l₁ l₂ → Paired F m₁ m₂ → Paired F (l₁ ++ m₁) (l₂ ++ m₂)
  | _, _, _, _, .nil, s => s
  | _, _, _, _, .cons r t, s => .cons r (Paired.app t s)
theorem Paired.len {α β : Type} {F : α → β → Prop} : ∀ {l₁ : List α} {l₂ : List β}, Paired F l₁ l₂ → l₁.length = l₂.length
  | _, _, .nil => rfl
  | _, _, .cons _ t => congrArg (· + 1) (Paired.len t)
/-- the last pair -/
theorem Paired.last {α β : Type} {F : α → β → Prop} {l₁ : List α} {l₂ : List β} (h : Paired F l₁ l₂) (n : l₁ ≠ []) : ∃ a b l m, l₁ = l ++ [a] ∧ l₂ = m ++ [b] ∧ F a b ∧ Paired F l m := by
  induction h with
  | nil => exact absurd rfl n
  | @cons a b l m r t ih =>
    cases t with
    | nil => exact ⟨a, b, [], [], rfl, rfl, r, .nil⟩
    | @cons a' b' l' m' r' t' =>
      obtain ⟨x, y, p, q, e1, e2, f, g⟩ := ih (by simp)
      exact ⟨x, y, a :: p, b :: q, by rw [e1] <;> rfl, by rw [e2] <;> rfl, f, .cons r g⟩
section
variable {P : Program} {w : World} {K : PySem.W.Frag} {mg : Str → Option Value} {base : Heap}
theorem same_new {H : Hp} {p : Addr} {o : HO} (h : H p = none) : Same H (upd H p o) := fun b u q => by rw [upd_ne (ne_of_none q h)]; exact q
/-- a new object changes -/
theorem same_mut {H H' : Hp} {p : Addr} {o : HO} (e : Same H H') (h : H p = none) : Same H (upd H' p o) := fun a u ha => by
  rw [upd_ne (ne_of_none ha h)]
  exact e a u ha
/-! ### has_forks_of -/
def spForks (K : PySem.W.Frag) : Sp := fun vs H Q _ => ∃ (v : V) (t : Dt) (least : Nat), vs = [v, .int least] ∧ DtV K H v t ∧ t.size ≤ 100000 ∧ ∀ H', Same H H' → Q (.bl (t.good least)) H'
theorem ok_forks (D : DefAt K mg "has_forks_of" s_has_forks_of ["thing", "least"]) (T : Txt K mg) (mk : ∃ t, mg "MOST_CHILDREN" = some (.int 6 t)) : CalX P w K mg base CX0 1 "has_forks_of" ["thing", "least"] (spForks K) := by
  obtain ⟨tk, mk⟩ := mk
  refine D.ok sc_has_forks_of (fun vs H Q E h => ?_) (fun f cdv A outer s H vs Q E hr h => ?_)
  · obtain ⟨v, t, l, rfl, _⟩ := h
    rfl
  obtain ⟨v, t, least, rfl, hv, hs, q⟩ := h
  refine ⟨_, pss_cons (ps_set (i := 2) sc_has_forks_of.nd rfl (.inl rfl) (pe_lst (pa_cons (pv 0) pa_nil)))
    (pss_cons (ps_while PassesOwn.never (pt_truth (pv 2) (by intro _; rfl))
      (pss_cons (ps_set (i := 3) sc_has_forks_of.nd rfl (.inl rfl) (pe_bm0 PySem.F.plainAttrs_list PySem.F.slot_list_pop PySem.F.type_list_pop mt_pop (pv 2)))
      (pss_cons (ps_if (PW.pt (pw_or (pt_not (pt_val (pe_callB call_isi (by rfl) T.isinstance boot_isinstance (pa_cons (pv 3) (pa_cons (pe_bltn (v := .ty "tuple") (by rfl) T.tuple PyProof.Rows.boot_tuple rfl) pa_nil)))))
          (pw_or1 (pt_cmpR op_gt (pe_callB call_len_seq (by rfl) T.len PySem.boot_len (pa_cons (pv 3) pa_nil)) (pe_glob (v := .int 6) (by rfl) mk ⟨_, rfl⟩) (nomark _))))) (pss_one (ps_ret pe_bl)) pss_nil)
      (pss_cons (ps_if (pt_chain op_lt op_lt pe_int (pe_callB call_len_seq (by rfl) T.len PySem.boot_len (pa_cons (pv 3) pa_nil)) (pv 1)) (pss_one (ps_ret pe_bl)) pss_nil)
      (pss_one (ps_expr (pe_bm PySem.F.plainAttrs_list PySem.F.slot_list_extend PySem.F.type_list_extend mt_extendT (pv 2) (pa_cons (pv 3) pa_nil))))))))
    (pss_one (ps_ret pe_bl))), ?_⟩
  refine ⟨_, rfl, (by show 1 ≤ sizeLine; decide), fun l hl => ?_⟩
  refine ⟨fun m σ H' => ∃ (xs : List V) (ds : List Dt) (pv : Option V), σ = [some v, some (.int least), some (.ref l), pv] ∧ Same H H' ∧ H' l = some (.lst xs) ∧ Paired (DtV K H) xs ds ∧ m = Dt.sizes ds ∧ Dt.sizes ds ≤ 100000 ∧ t.good least = ds.all (Dt.good least),
    ⟨Dt.sizes [t], [v], [t], none, rfl, same_new hl, upd_same, .cons hv .nil, rfl, (by show t.size + 0 ≤ 100000; omega), by simp⟩, fun m σ H' hW => ?_⟩
  obtain ⟨xs, ds, pv, rfl, sm, hL, hp, rfl, hz, hg⟩ := hW
  have hlen := Paired.len hp
  refine ⟨_, rfl, !xs.isEmpty, .inl ⟨xs, .inl (.inl hL), rfl⟩, ?_⟩
  cases xs with
  | nil =>
    cases hp
    refine iteF ?_
    rw [show t.good least = true from hg] at q
    exact q H' sm
  | cons x0 xr =>
    refine iteT ?_
    obtain ⟨a, b, l1, m1, e1, e2, hab, hlm⟩ := Paired.last hp (by simp)
    rw [e1] at hL hlen
    rw [e2] at hz hg hlen ⊢
    have es : Dt.sizes (m1 ++ [b]) = Dt.sizes m1 + b.size := by simp [Dt.sizes]
    have eg : (m1 ++ [b]).all (Dt.good least) = (m1.all (Dt.good least) && Dt.good least b) := by simp
    refine ⟨_, fun _ _ z => z, ?_⟩
    -- part = left.pop()
    refine ⟨_, rfl, .inl ⟨rfl, _, .inl (.inl hL)⟩, l, _, a, rfl, rfl, hL, by simp, ?_⟩
    rw [List.dropLast_concat]
    have sm1 : Same H (upd H' l (.lst l1)) := same_mut sm hl
    have bad : Dt.here least b = false → t.good least = false := fun z => by
      rw [hg, eg]
      unfold Dt.good
      rw [z]
      simp
    rcases hab with ⟨rfl, s', hk, hn⟩ | ⟨ad, vs', rfl, hS, hF⟩
    · -- no tuple
      have hk' := same_kind sm1 hk
      have e3 : (s' == "tuple") = false := by simpa using hn
      refine isi_read rfl hk'.1 (kit_tup hk'.2) ⟨_, rfl, ?_⟩
      rw [e3]
      refine iteT (iteT ?_)
      rw [bad rfl] at q
      exact q _ sm1
    · have hS' := same_sqt sm1 hS
      refine isi_read rfl (tyx_tup hS') (kit_tup (t := "tuple") (by simp)) ⟨_, rfl, ?_⟩
      refine iteF ?_
      have lk := hF.len
      refine ⟨_, rfl, ad, vs', rfl, .inr hS', _, _, rfl, rfl, _, rfl, ?_⟩
      refine ite2 (fun c => ?_) (fun c => ?_)
      · have c' : (6 : Int) < (vs'.length : Int) := of_decide_eq_true c
        rw [bad ?_] at q
        · exact q _ sm1
        · unfold Dt.here
          rw [show decide (b.len ≤ 6) = false from decide_eq_false (by omega)]
          simp
      · have c' : ¬ (6 : Int) < (vs'.length : Int) := fun z => c (decide_eq_true z)
        have h6 : decide (b.len ≤ 6) = true := decide_eq_true (by omega)
        have nx : b.isx = false := hF.no_x
        have skids : ∀ b' : Dt, Dt.sizes b'.kids < b'.size := fun b' => by
          induction b' with
          | x => exact Nat.lt_succ_self 0
          | o => exact Nat.lt_succ_self 0
          | c k r _ ih =>
            show k.size + Dt.sizes r.kids < k.size + r.size + 1
            omega
        have sk := skids b
        have ek : Dt.sizes (m1 ++ b.kids) = Dt.sizes m1 + Dt.sizes b.kids := by simp [Dt.sizes]
        have hlm' := Paired.len hlm
        have lsz : ∀ ds : List Dt, ds.length ≤ Dt.sizes ds := fun ds => by
          induction ds with
          | nil => exact Nat.le_refl 0
          | cons d ds ih =>
            have := d.size_pos
            show ds.length + 1 ≤ d.size + Dt.sizes ds
            omega
        have l1z := lsz m1
        have l2z := lsz b.kids
        have lk2 := b.kids_len
        have g2 : Dt.here least b = true → t.good least = (m1 ++ b.kids).all (Dt.good least) := fun z => by
          rw [hg, eg]
          unfold Dt.good
          rw [z, List.all_append, Dt.kids_good]
          rfl
        have sz : l1.length + vs'.length ≤ sizeLine := by
          rw [sizeLine_eq]
          omega
        refine ⟨_, rfl, ad, vs', rfl, .inr hS', _, _, rfl, rfl, _, rfl, ?_⟩
        refine ite2 (fun c1 => ?_) (fun c1 => ?_)
        · have c1' : (0 : Int) < (vs'.length : Int) := of_decide_eq_true c1
          refine ⟨_, rfl, _, _, rfl, rfl, _, rfl, ?_⟩
          refine ite2 (fun c2 => ?_) (fun c2 => ?_)
          · have c2' : (vs'.length : Int) < (least : Int) := of_decide_eq_true c2
            rw [bad ?_] at q
            · exact q _ sm1
            · unfold Dt.here
              rw [decide_eq_true (show 0 < b.len by omega), decide_eq_true (show b.len < least by omega)]
              simp
          · have c2' : ¬ (vs'.length : Int) < (least : Int) := fun z => c2 (decide_eq_true z)
            have hh : Dt.here least b = true := by
              unfold Dt.here
              rw [nx, h6, decide_eq_false (show ¬ b.len < least by omega)]
              simp
            refine ⟨_, rfl, .inl ⟨rfl, _, .inl (.inl upd_same)⟩, _, rfl, l, ad, l1, vs', rfl, rfl, upd_same, hS', sz, ?_⟩
            refine ⟨_, by omega, l1 ++ vs', m1 ++ b.kids, _, rfl, same_mut sm1 hl, upd_same, Paired.app hlm hF.kids, rfl, by omega, g2 hh⟩
        · have c1' : ¬ (0 : Int) < (vs'.length : Int) := fun z => c1 (decide_eq_true z)
          refine ⟨_, rfl, ?_⟩
          refine iteF ?_
          have hh : Dt.here least b = true := by
            unfold Dt.here
            rw [nx, h6, decide_eq_false (show ¬ 0 < b.len by omega)]
            simp
          refine ⟨_, rfl, .inl ⟨rfl, _, .inl (.inl upd_same)⟩, _, rfl, l, ad, l1, vs', rfl, rfl, upd_same, hS', sz, ?_⟩
          refine ⟨_, by omega, l1 ++ vs', m1 ++ b.kids, _, rfl, same_mut sm1 hl, upd_same, Paired.app hlm hF.kids, rfl, by omega, g2 hh⟩
/-! ### is_shape, need_shape -/
def spIsShape (K : PySem.W.Frag) : Sp := fun vs H Q _ => ∃ (v : V) (t : Dt), vs = [v] ∧ DtV K H v t ∧ t.size ≤ 100000 ∧ ∀ H', Same H H' → Q (.bl (t.good 1)) H'
theorem ok_isShape (D : DefAt K mg "is_shape" s_is_shape ["thing"]) (G : CalX P w K mg base CX0 1 "has_forks_of" ["thing", "least"] (spForks K)) : CalX P w K mg base CX0 2 "is_shape" ["thing"] (spIsShape K) := by
  refine D.ok sc_is_shape (fun vs H Q E h => ?_) (fun f cdv A outer s H vs Q E hr h => ?_)
  · obtain ⟨v, t, rfl, _⟩ := h
    rfl
  obtain ⟨v, t, rfl, hv, hz, q⟩ := h
  refine ⟨_, pss_one (ps_ret (pe_c0 G hr (by decide) rfl (pa_cons (pv 0) (pa_cons pe_int pa_nil)))), ?_⟩
  exact ⟨_, rfl, v, t, 1, rfl, hv, hz, q⟩
def spNeedShape (K : PySem.W.Frag) (U : Addr) : Sp := fun vs H Q E => ∃ (v : V) (t : Dt) (z : Str), vs = [v, .str z] ∧ DtV K H v t ∧ t.size ≤ 100000 ∧
  (t.good 1 = true → ∀ H', Same H H' → Q .non H') ∧ (t.good 1 = false → ∀ H' d, Same H H' → H' d = none → E (.ref U) (some d) (upd H' d (xdO z (-1))))
theorem ok_needShape {U : Addr} (D : DefAt K mg "need_shape" s_need_shape ["form", "word"]) (G : CalX P w K mg base CX0 2 "is_shape" ["thing"] (spIsShape K)) (GN : CalX P w K mg base (L2.CX P w) 3 "need" ["fits", "word"] (spNeed U)) :
    CalX P w K mg base (L2.CX P w) 4 "need_shape" ["form", "word"] (spNeedShape K U) := by
  refine D.okX sc_need_shape (fun vs H Q E h => ?_) (fun f cdv A outer s H vs Q E hr h => ?_)
  · obtain ⟨v, t, z, rfl, _⟩ := h
    rfl
  obtain ⟨v, t, z, rfl, hv, hz, q1, q2⟩ := h
  refine ⟨_, pss_one (ps_expr (pe_cx GN hr (by decide) rfl (passes_call (takes_of rfl rfl rfl rfl) (fun _ _ _ _ h => h)) (pa_cons (pe_c0 G hr (by decide) rfl (pa_cons (pv 0) pa_nil)) (pa_cons (pv 1) pa_nil)))), ?_⟩
  refine ⟨_, rfl, v, t, rfl, hv, hz, fun H' sm => ?_⟩
  exact ⟨_, rfl, _, z, rfl, fun e => q1 e H' sm, fun e d hd => q2 e H' d sm hd⟩
end
end K19

set_option Elab.async false
set_option linter.all false
set_option maxRecDepth 100000
set_option maxHeartbeats 4000000
namespace PySem
open Sem (wp)
open AutoSeq1 (wpAny_loadPart')
theorem meets_enumerate_newT (l : Addr) (ob : Obj) (items : Array Value) (n : Nat) (hc : ob.cls = .type "tuple") (hd : ob.data = .seq items n) :
    Meets (Builtin.«enumerate.__new__» ⟨[.type "enumerate", .ref l], []⟩) (fun _ R s => s.heap.get? l = some ob ∧
      R (.ok (.ret (.ref (s.heap.push { cls := .type "tuple_iterator", data := .fields #[.ref l, .int 0 0] }).objs.size)))
        { s with heap := (s.heap.push { cls := .type "tuple_iterator", data := .fields #[.ref l, .int 0 0] }).push { cls := .type "enumerate", data := .fields #[.none, .bool false, .ref s.heap.objs.size, rawInt 0, .none, .none] } }) :=
  .of_wp fun prog w A R s h => by
    obtain ⟨hp, g, d, tk, os⟩ := s; obtain ⟨hl, h⟩ := h
    have hsub := sub_enumerate
    have hL : Heap.IsTuple (Shared.heap ⟨hp, g, d, tk, os⟩) l items := ⟨_, hl, hc, n, hd⟩
    wp_walk using wpAny_loadPart' hl
    refine wpAny_stack_any fun st => wpAny_pure ?_
    split
    · rename_i c _ _ _ _ _
      cases (c == Value.type "enumerate")
      · wp_walk using wpAny_loadPart' hl, wpAny_pyIter_tuple hL
        exact ⟨_, rfl, h⟩
      · wp_walk using wpAny_loadPart' hl, wpAny_pyIter_tuple hL
        exact ⟨_, rfl, h⟩
    · wp_walk using wpAny_loadPart' hl, wpAny_pyIter_tuple hL
      exact ⟨_, rfl, h⟩
section
variable {prog : Program} {w : World} {A : Around} {E : Value → Shared → Prop} {s : Shared}
theorem call_enumerate_tup {l : Addr} {items : Array Value} {Q : Value → Shared → Prop} (hL : s.heap.IsTuple l items)
    (h : ∀ h', IsEnum h' (s.heap.objs.size + 1) s.heap.objs.size 0 .none → h'.IsTupleIter s.heap.objs.size l 0 → h'.objs.size = s.heap.objs.size + 2 →
      (∀ b o, s.heap.get? b = some o → h'.get? b = some o) → Q (.ref (s.heap.objs.size + 1)) { s with heap := h' }) :
    wpAny (model prog w) A (call (.type "enumerate") [.ref l]) Q E s := by
  obtain ⟨ob, hl, hc, n, hd⟩ := hL
  refine callType_new F.called_enumerate (by decide) (F.typeCall_enumerate_1 _) (F.newCall_enumerate_1 _) (fun obj => F.args_object_init_2 obj _) F.entry_enumerate_new
    (meets_enumerate_newT l ob items n hc hd) ⟨hl, ?_⟩
  have hz : (s.heap.push { cls := .type "tuple_iterator", data := .fields #[.ref l, .int 0 0] }).objs.size = s.heap.objs.size + 1 := Heap.size_push ..
  show _ ∧ _
  rw [hz]
  have he : IsEnum ((s.heap.push { cls := .type "tuple_iterator", data := .fields #[.ref l, .int 0 0] }).push
      { cls := .type "enumerate", data := .fields #[.none, .bool false, .ref s.heap.objs.size, rawInt 0, .none, .none] }) (s.heap.objs.size + 1) s.heap.objs.size 0 .none := by
    have := Heap.get?_push_size (s.heap.push { cls := .type "tuple_iterator", data := .fields #[.ref l, .int 0 0] })
      (o := { cls := .type "enumerate", data := .fields #[.none, .bool false, .ref s.heap.objs.size, rawInt 0, .none, .none] }) rfl
    rw [hz] at this; exact this
  refine ⟨⟨_, he, rfl⟩, h _ he ⟨_, Heap.get?_push_of_some _ (Heap.get?_push_size _ rfl), rfl, rfl⟩ (by rw [Heap.size_push, hz]) fun b o x => Heap.get?_push_of_some _ (Heap.get?_push_of_some _ x)⟩
end
end PySem
namespace L2
open PySem PySem.Spec PyProof.Rows
/-! ### enumerate(tuple) -/
def Itet (K : PySem.W.Frag) (a : Addr) : It :=
  ⟨fun i H => ∃ (xs : List V) (x : V), SqT K H a xs ∧ xs[i]? = some x, fun i H v H' => ∃ T x, v = .ref T ∧ H T = none ∧ H' = upd H T (.tup [.int (i : Nat), x]) ∧ ∀ xs, SqT K H a xs → xs[i]? = some x, fun i H => ∃ xs : List V, SqT K H a xs ∧ xs.length ≤ i⟩
theorem turn_enumT {P : Program} {w : World} {K : PySem.W.Frag} {elts : List Expr} {kk : Nat} {tpos : Pos} (a e it : Addr) :
    Turn P w K (.Tuple elts kk tpos) (Itet K a) [e, it] e (fun i h => (∃ old, IsEnum h e it ((i : Nat) : Int) old) ∧ h.IsTupleIter it a i ∧ e ≠ it ∧ a ≠ e ∧ a ≠ it) where
  mem := by simp
  obj := fun i h st b hb => by
    obtain ⟨⟨old, he⟩, ⟨o, ho, hc, hd⟩, _⟩ := st
    have e' : b = e ∨ b = it := by simpa using hb
    rcases e' with z | z
    · rw [z]; exact ⟨_, he, fun v q => nomatch q⟩
    · rw [z]; exact ⟨o, ho, fun v q => by rw [hd] at q; cases q⟩
  keep := fun i h h' st k => let ⟨⟨old, he⟩, hi, hne⟩ := st; ⟨⟨old, k e (by simp) _ he⟩, hi.at fun o q => k it (by simp) o q, hne⟩
  item := by
    intro X hP hw hK hc i pins s σ H E I hf st hg
    subst hP hw hK
    obtain ⟨⟨old, he⟩, hit, hne, hae, hai⟩ := st
    obtain ⟨xs, x, hq, hx⟩ := hg
    obtain ⟨its, rv, p, hz⟩ := I.tuple hq
    obtain ⟨u, hu, ru⟩ := rv.get hx
    have hel : e < s.heap.objs.size := Heap.lt_size he
    have hil : it < s.heap.objs.size := by obtain ⟨_, q, _⟩ := hit; exact Heap.lt_size q
    have hi : i < its.toArray.size := by
      rw [List.size_toArray]
      exact (List.getElem?_eq_some_iff.mp hu).1
    have D := Draws.tuple (prog := X.prog) (w := X.w) (A := X.A.in1) (I.ok.hd hc) it a hai its.toArray
    refine wpAny_pyNext_enum_itemD D he ⟨hit, p⟩ hi hne (by simp [Ne.symm hae, hne]) fun x' h' tk' hP ho hit' hT hsz hk => ?_
    refine ⟨_, rfl, wpAny_letOwnedTupleGo_enum (s := { s with heap := h', toks := tk' + 1 }) ho fun h'' he' sb => ?_⟩
    have eu : x' = u := by
      have e1 : its.toArray[i]? = some x' := hP
      have e2 : its.toArray[i]? = some u := by simpa using hu
      exact Option.some.inj (e1.symm.trans e2)
    subst eu
    have hT2 : h''.get? s.heap.objs.size = some { cls := .type "tuple", data := .seq #[.int i tk', x'] } := (sb.2 _ (Nat.ne_of_gt hel)).trans hT
    have new : ObjOk X.prog X.w (upd H s.heap.objs.size (.tup [.int (i : Nat), x])) h'' s.heap.objs.size (.tup [.int (i : Nat), x]) :=
      ⟨by show 2 ≤ sizeLine; decide, [.int i tk', x'], .cons ⟨_, rfl⟩ (.cons ru .nil), ⟨_, hT2, rfl, _, rfl⟩⟩
    have I1 : Inv X pins σ (upd H s.heap.objs.size (.tup [.int (i : Nat), x])) { s with heap := h'', toks := tk' + 1 } :=
      I.turnedNew (ch := [e, it]) (fun b ob hb q => (sb.2 b (fun z => hb (by simp [z]))).trans (hk b ob (fun z => hb (by simp [z])) (fun z => hb (by simp [z])) q)) hf (Nat.le_refl _) new
    refine ⟨.ref s.heap.objs.size, _, I1, rfl, ⟨_, x, rfl, I.hok.fresh (Nat.le_refl _), rfl, fun ys hy => by rw [I.tuple_inj hy hq]; exact hx⟩, ⟨⟨x', ?_⟩, hit'.1.at fun o q => (sb.2 it (Ne.symm hne)).trans q, hne, hae, hai⟩, fun b hb => ?_⟩
    · have e1 : ((i + 1 : Nat) : Int) = (i : Int) + 1 := by omega
      rw [e1]; exact he'
    · have hb' : b < s.heap.objs.size := by
        have e' : b = e ∨ b = it := by simpa using hb
        rcases e' with z | z
        · rw [z]; exact hel
        · rw [z]; exact hil
      rw [upd_ne (Nat.ne_of_lt hb')]
      exact (hf b hb).1
  done := by
    intro X hP hw hK hc i pins s σ H E I hf st hg
    subst hP hw hK
    obtain ⟨⟨old, he⟩, hit, hne, hae, hai⟩ := st
    obtain ⟨xs, hq, hx⟩ := hg
    obtain ⟨its, rv, p, hz⟩ := I.tuple hq
    obtain ⟨f0, f1, f2, f3, f4, f5⟩ := hf it (by simp)
    have hl := rv.length
    have hT : s.TypeIs (.ref e) "enumerate" := ⟨_, he, rfl⟩
    unfold pyNext
    refine wpAny_bind (wpAny_attempt (wpAny_callSpecial?_slot (name := Str.ofString "__next__") hT F.slot_enumerate_next
      (wpAny_call_entry F.slot_enumerate_next hT F.entry_enumerate_next ?_ (F.args_enumerate_next_1 _))))
    show wpAny _ _ (field (.ref e) 2 >>= _) _ _ _
    refine wpAny_bind (wpAny_field he rfl (x := .ref it) rfl ?_)
    refine wpAny_bind (wpAny_nextOf_tuple_end (show X.A.in1.handled = none from I.ok.hd hc) hit p (by rw [List.getElem?_toArray]; exact List.getElem?_eq_none (by omega)) fun h' x he' hx' => ?_)
    obtain ⟨o, ho, hcl⟩ := hx'
    refine wpAny_bind (wpAny_isInstance (T := "StopIteration") (b := true) ⟨o, ho, hcl⟩ isSubtype_stop ?_)
    obtain ⟨g0, g1, g2, g3, g4, g5⟩ := hf it (by simp)
    exact wpAny_pure ⟨rfl, I.turned (t' := s.toks) (fun b o hb q => he' b o hb q) g0 g1 g3 g4 g5⟩
  self := fun A i s Q E st h => let ⟨⟨_, he⟩, _⟩ := st; wpAny_pyIter_enum he h
def iEnumT (K : PySem.W.Frag) (ta : TA) : TI := fun σ H R => ta σ H fun vs H1 => ∃ a xs, vs = [.ref a] ∧ SqT K H1 a xs ∧ R (Itet K a) H1
theorem pi_enumT {X : Cx} {e : Expr} {ta : TA} {p pos tpos : Pos} {elts : List Expr} {kk : Nat} (hg : Gl X "enumerate") (hm : X.mg "enumerate" = none) (ha : PA X [e] ta) (hs : starEach [e] X.env = [(false, eval e X.env)] := by rfl) :
    PI X (.Tuple elts kk tpos) (.Call (.Name "enumerate" p) [e] [] pos) (iEnumT X.K ta) := by
  refine ⟨fun pins s σ H R I h => ?_⟩
  refine Call_ (ld_blt I hg hm boot_enumerate (PyProof.Rows.callWith_type1 (thn (ha.run pos pins s σ H _ I h) fun us s1 ⟨vs, H1, I1, r1, q1⟩ => ?_) hs rfl))
  obtain ⟨a, xs, ex, hq, q⟩ := q1
  subst ex
  cases r1 with
  | cons r rr =>
    cases rr
    cases r
    obtain ⟨its, rv, p', hz⟩ := I1.tuple hq
    have hal : a < s1.heap.objs.size := by
      obtain ⟨o, ho, _⟩ := p'
      exact Heap.lt_size ho
    refine call_enumerate_tup p' fun h' he hit hsz hk => wpAny_pyIter_enum he ?_
    have I2 : Inv X pins σ H1 { s1 with heap := h' } := I1.kept (t' := s1.toks) hk
    refine ⟨s1.heap.objs.size + 1, [s1.heap.objs.size + 1, s1.heap.objs.size], _, _, H1, rfl, I2, turn_enumT a (s1.heap.objs.size + 1) s1.heap.objs.size, ⟨⟨.none, he⟩, hit, Nat.succ_ne_self _, Nat.ne_of_lt (Nat.lt_succ_of_lt hal), Nat.ne_of_lt hal⟩, fun b hb => ?_, q⟩
    have e' : b = s1.heap.objs.size + 1 ∨ b = s1.heap.objs.size := by simpa using hb
    have hle : s1.heap.objs.size ≤ b := by
      rcases e' with z | z
      · rw [z]; exact Nat.le_add_right _ _
      · rw [z]; exact Nat.le_refl _
    exact I1.fpOk hle (I1.hok.fresh hle)
theorem walk_enumT {K : PySem.W.Frag} {a : Addr} {xs : List V} : Walk (Itet K a) xs.length (fun H => SqT K H a xs) (YPair (fun i => some (.int (i : Nat))) (fun i => xs[i]?)) := by
  refine ⟨fun i _ hi q => ⟨xs, xs[i], q, by simp [hi]⟩, fun _ q => ⟨xs, q, Nat.le_refl _⟩, fun i H v H' _ q y => ?_⟩
  obtain ⟨T, x, h1, h2, h3, h4⟩ := y
  exact ⟨T, .int (i : Nat), x, h1, h2, h3, rfl, h4 xs q⟩
end L2

set_option Elab.async false
set_option linter.all false
set_option maxRecDepth 100000
set_option maxHeartbeats 4000000
namespace K19
open PySem PySem.Spec PyProof.Rows L2
/-! ### addresses: the mathematics of a tree's nodes -/
abbrev Ad := List Nat
namespace Dt
/-- the nodes of the tree with this row of children, itself counted -/
def nodes : Dt → Nat | c k r => k.nodes + r.nodes | _ => 1
theorem nodes_pos : ∀ t : Dt, 1 ≤ t.nodes
  | x => Nat.le_refl 1
  | o => Nat.le_refl 1
  | c k r => Nat.le_trans (nodes_pos k) (Nat.le_add_right _ _)
def sub : Dt → Ad → Option Dt
  | t, [] => some t
  | c k _, 0 :: p => sub k p
  | c _ r, (j + 1) :: p => sub r (j :: p)
  | _, _ :: _ => none
def idx : Dt → Ad → Nat
  | _, [] => 0
  | c k _, 0 :: p => 1 + idx k p
  | c k r, (j + 1) :: p => k.nodes + idx r (j :: p)
  | _, _ :: _ => 0
def up : Ad → Ad
  | j :: p => (j + 1) :: p
  | [] => []
def adF : Dt → List Ad
  | c k r => (([] :: adF k).map (List.cons 0)) ++ (adF r).map up
  | _ => []
def ad (t : Dt) : List Ad := [] :: adF t
theorem sub_nil (t : Dt) : sub t [] = some t := by cases t <;> rfl
theorem idx_nil (t : Dt) : idx t [] = 0 := by cases t <;> rfl
theorem sub_c0 (k r : Dt) (p : Ad) : sub (c k r) (0 :: p) = sub k p := rfl
theorem sub_cs (k r : Dt) (j : Nat) (p : Ad) : sub (c k r) ((j + 1) :: p) = sub r (j :: p) := rfl
theorem idx_c0 (k r : Dt) (p : Ad) : idx (c k r) (0 :: p) = 1 + idx k p := rfl
theorem idx_cs (k r : Dt) (j : Nat) (p : Ad) : idx (c k r) ((j + 1) :: p) = k.nodes + idx r (j :: p) := rfl
theorem sub_o (j : Nat) (p : Ad) : sub o (j :: p) = none := by cases j <;> rfl
theorem sub_x (j : Nat) (p : Ad) : sub x (j :: p) = none := by cases j <;> rfl
theorem adF_len : ∀ t : Dt, (adF t).length + 1 = t.nodes
  | x => rfl
  | o => rfl
  | c k r => by
    have h1 := adF_len k
    have h2 := adF_len r
    show ((([] :: adF k).map (List.cons 0)) ++ (adF r).map up).length + 1 = k.nodes + r.nodes
    simp only [List.length_append, List.length_map, List.length_cons]
    omega
theorem ad_len (t : Dt) : (ad t).length = t.nodes := adF_len t
theorem ad_c (k r : Dt) : ad (c k r) = [] :: ((ad k).map (List.cons 0) ++ (adF r).map up) := rfl
/-- no address here begins with p -/
def Off (p : Ad) (l : List Ad) : Prop := ∀ q ∈ l, ¬ p <+: q
theorem adF_cons : ∀ (t : Dt) (q : Ad), q ∈ adF t → ∃ j p, q = j :: p
  | x, q, h => by simp [adF] at h
  | o, q, h => by simp [adF] at h
  | c k r, q, h => by
    have h' : q ∈ (ad k).map (List.cons 0) ++ (adF r).map up := h
    rcases List.mem_append.mp h' with h | h
    · obtain ⟨p, _, rfl⟩ := List.mem_map.mp h
      exact ⟨0, p, rfl⟩
    · obtain ⟨p, hp, rfl⟩ := List.mem_map.mp h
      obtain ⟨j, p', rfl⟩ := adF_cons r p hp
      exact ⟨j + 1, p', rfl⟩
theorem block : ∀ (t : Dt) (p : Ad) (u : Dt), sub t p = some u → ∃ A B, ad t = A ++ ((ad u).map (p ++ ·) ++ B) ∧ A.length = idx t p ∧ Off p A ∧ Off p B
  | t, [], u, h => by
    rw [sub_nil] at h
    cases h
    refine ⟨[], [], ?_, (idx_nil t).symm, by intro q h; simp at h, by intro q h; simp at h⟩
    simp
  | c k r, 0 :: p, u, h => by
    obtain ⟨A, B, e, l, oa, ob⟩ := block k p u h
    refine ⟨[] :: A.map (List.cons 0), B.map (List.cons 0) ++ (adF r).map up, ?_, ?_, ?_, ?_⟩
    · rw [ad_c, e]
      simp
    · rw [idx_c0, ← l]
      simp
      omega
    · intro q hq
      rcases List.mem_cons.mp hq with rfl | hq
      · simp
      · obtain ⟨q', hq', rfl⟩ := List.mem_map.mp hq
        intro z
        exact oa q' hq' (List.cons_prefix_cons.mp z).2
    · intro q hq
      rcases List.mem_append.mp hq with hq | hq
      · obtain ⟨q', hq', rfl⟩ := List.mem_map.mp hq
        intro z
        exact ob q' hq' (List.cons_prefix_cons.mp z).2
      · obtain ⟨q', hq', rfl⟩ := List.mem_map.mp hq
        obtain ⟨j, p', rfl⟩ := adF_cons r q' hq'
        intro z
        have := (List.cons_prefix_cons.mp z).1
        omega
  | c k r, (j + 1) :: p, u, h => by
    obtain ⟨A, B, e, l, oa, ob⟩ := block r (j :: p) u h
    cases A with
    | nil =>
      exfalso
      have e2 : ad r = (j :: p ++ []) :: (((adF u).map (j :: p ++ ·)) ++ B) := e
      have e3 : ([] : Ad) = j :: p ++ [] := (List.cons.inj e2).1
      cases e3
    | cons a A' =>
      have e2 : [] :: adF r = a :: (A' ++ ((ad u).map (j :: p ++ ·) ++ B)) := e
      obtain ⟨_, e3⟩ := List.cons.inj e2
      refine ⟨[] :: ((ad k).map (List.cons 0) ++ A'.map up), B.map up, ?_, ?_, ?_, ?_⟩
      · rw [ad_c, e3]
        simp [up, Function.comp_def]
      · rw [idx_cs, ← l, ← ad_len k]
        simp
        omega
      · intro q hq
        rcases List.mem_cons.mp hq with rfl | hq
        · simp
        · rcases List.mem_append.mp hq with hq | hq
          · obtain ⟨q', hq', rfl⟩ := List.mem_map.mp hq
            intro z
            have := (List.cons_prefix_cons.mp z).1
            omega
          · obtain ⟨q', hq', rfl⟩ := List.mem_map.mp hq
            have hm : q' ∈ adF r := by rw [e3]; exact List.mem_append_left _ hq'
            obtain ⟨j', p', rfl⟩ := adF_cons r q' hm
            intro z
            obtain ⟨z1, z2⟩ := List.cons_prefix_cons.mp z
            exact oa _ (List.mem_cons_of_mem _ hq') (List.cons_prefix_cons.mpr ⟨by omega, z2⟩)
      · intro q hq
        obtain ⟨q', hq', rfl⟩ := List.mem_map.mp hq
        have hm : q' ∈ adF r := by rw [e3]; exact List.mem_append_right _ (List.mem_append_right _ hq')
        obtain ⟨j', p', rfl⟩ := adF_cons r q' hm
        intro z
        obtain ⟨z1, z2⟩ := List.cons_prefix_cons.mp z
        exact ob _ hq' (List.cons_prefix_cons.mpr ⟨by omega, z2⟩)
  | o, j :: p, _, h => by rw [sub_o] at h; cases h
  | x, j :: p, _, h => by rw [sub_x] at h; cases h
theorem sub_app : ∀ (t : Dt) (p : Ad) (u : Dt), sub t p = some u → ∀ q, sub t (p ++ q) = sub u q ∧ idx t (p ++ q) = idx t p + idx u q
  | t, [], u, h, q => by
    rw [sub_nil] at h
    cases h
    rw [idx_nil]
    exact ⟨rfl, (Nat.zero_add _).symm⟩
  | c k r, 0 :: p, u, h, q => by
    obtain ⟨a, b⟩ := sub_app k p u h q
    refine ⟨a, ?_⟩
    show 1 + idx k (p ++ q) = 1 + idx k p + idx u q
    omega
  | c k r, (j + 1) :: p, u, h, q => by
    obtain ⟨a, b⟩ := sub_app r (j :: p) u h q
    refine ⟨a, ?_⟩
    show k.nodes + idx r (j :: p ++ q) = k.nodes + idx r (j :: p) + idx u q
    omega
  | o, j :: p, _, h, _ => by rw [sub_o] at h; cases h
  | x, j :: p, _, h, _ => by rw [sub_x] at h; cases h
theorem ad_at {t u : Dt} {p : Ad} (h : sub t p = some u) : (ad t)[idx t p]? = some p := by
  obtain ⟨A, B, e, l, _, _⟩ := block t p u h
  have e2 : (ad u).map (p ++ ·) = p :: (adF u).map (p ++ ·) := by
    show (p ++ []) :: _ = _
    rw [List.append_nil]
  rw [e, e2, ← l]
  simp
theorem idx_lt {t u : Dt} {p : Ad} (h : sub t p = some u) : idx t p + u.nodes ≤ t.nodes := by
  obtain ⟨A, B, e, l, _, _⟩ := block t p u h
  rw [← ad_len t, e, ← l, ← ad_len u]
  simp
/-- each address of the list leads to a node, and stands at its own number -/
theorem adF_sub : ∀ (t : Dt) (p : Ad), p ∈ adF t → ∃ u, sub t p = some u
  | x, q, h => by simp [adF] at h
  | o, q, h => by simp [adF] at h
  | c k r, q, h => by
    have h' : q ∈ (ad k).map (List.cons 0) ++ (adF r).map up := h
    rcases List.mem_append.mp h' with h | h
    · obtain ⟨p, hp, rfl⟩ := List.mem_map.mp h
      rcases List.mem_cons.mp hp with rfl | hp
      · exact ⟨k, sub_nil k⟩
      · exact adF_sub k p hp
    · obtain ⟨p, hp, rfl⟩ := List.mem_map.mp h
      obtain ⟨j, p', rfl⟩ := adF_cons r p hp
      exact adF_sub r (j :: p') hp
theorem ad_sub {t : Dt} {p : Ad} (h : p ∈ ad t) : ∃ u, sub t p = some u := by
  rcases List.mem_cons.mp h with rfl | h
  · exact ⟨t, sub_nil t⟩
  · exact adF_sub t p h
theorem sub_ad {t u : Dt} {p : Ad} (h : sub t p = some u) : p ∈ ad t := List.mem_of_getElem? (ad_at h)
/-! ### the order -/
def zs (p : Ad) : List Int := p.map (fun n : Nat => Int.ofNat n)
def lt (p q : Ad) : Bool := HT.lexLt (zs p) (zs q)
theorem lt_nil (j : Nat) (p : Ad) : lt [] (j :: p) = true := rfl
theorem nil_lt (p : Ad) : lt p [] = false := by cases p <;> rfl
theorem lt_cons (i j : Nat) (p q : Ad) : lt (i :: p) (j :: q) = if i = j then lt p q else decide (i < j) := by
  show (if Int.ofNat i = Int.ofNat j then HT.lexLt (zs p) (zs q) else decide (Int.ofNat i < Int.ofNat j)) = _
  have c1 : Int.ofNat i = (i : Int) := rfl
  have c2 : Int.ofNat j = (j : Int) := rfl
  rw [c1, c2]
  by_cases h : i = j
  · rw [if_pos h, if_pos (by omega)]; rfl
  · rw [if_neg h, if_neg (by omega)]
    by_cases h2 : i < j
    · rw [decide_eq_true h2, decide_eq_true (by omega)]
    · rw [decide_eq_false h2, decide_eq_false (by omega)]
theorem lt_irr : ∀ p : Ad, lt p p = false
  | [] => rfl
  | i :: p => by rw [lt_cons, if_pos rfl]; exact lt_irr p
theorem lt_asym : ∀ p q : Ad, lt p q = true → lt q p = false
  | [], [], h => rfl
  | [], _ :: _, h => rfl
  | _ :: _, [], h => nomatch h
  | i :: p, j :: q, h => by
    rw [lt_cons] at h ⊢
    by_cases e : i = j
    · rw [if_pos e] at h
      rw [if_pos e.symm]
      exact lt_asym p q h
    · rw [if_neg e] at h
      rw [if_neg (Ne.symm e)]
      have := of_decide_eq_true h
      exact decide_eq_false (by omega)
theorem up_lt (i j : Nat) (p q : Ad) : lt (up (i :: p)) (up (j :: q)) = lt (i :: p) (j :: q) := by
  show lt ((i + 1) :: p) ((j + 1) :: q) = _
  rw [lt_cons, lt_cons]
  by_cases e : i = j
  · rw [if_pos e, if_pos (by omega)]
  · rw [if_neg e, if_neg (by omega)]
    by_cases h2 : i < j
    · rw [decide_eq_true h2, decide_eq_true (by omega)]
    · rw [decide_eq_false h2, decide_eq_false (by omega)]
def Asc (l : List Ad) : Prop := l.Pairwise fun p q => lt p q = true
theorem adF_asc : ∀ t : Dt, Asc (ad t)
  | x => List.pairwise_singleton _ _
  | o => List.pairwise_singleton _ _
  | c k r => by
    have h1 := adF_asc k
    have h2 := adF_asc r
    rw [ad_c]
    refine List.pairwise_cons.mpr ⟨?_, List.pairwise_append.mpr ⟨?_, ?_, ?_⟩⟩
    · intro q hq
      have hq' : q ∈ adF (c k r) := hq
      obtain ⟨j, p, rfl⟩ := adF_cons _ q hq'
      rfl
    · refine List.pairwise_map.mpr (h1.imp ?_)
      intro a b h
      show lt (0 :: a) (0 :: b) = true
      rw [lt_cons, if_pos rfl]
      exact h
    · refine List.pairwise_map.mpr ?_
      have h3 := (List.pairwise_cons.mp h2).2
      refine h3.imp_of_mem ?_
      intro a b ha hb h
      obtain ⟨i, p, rfl⟩ := adF_cons _ a ha
      obtain ⟨j, q, rfl⟩ := adF_cons _ b hb
      rw [up_lt]
      exact h
    · intro a ha b hb
      obtain ⟨p, _, rfl⟩ := List.mem_map.mp ha
      obtain ⟨q, hq, rfl⟩ := List.mem_map.mp hb
      obtain ⟨j, q', rfl⟩ := adF_cons _ q hq
      show lt (0 :: p) ((j + 1) :: q') = true
      rw [lt_cons, if_neg (by omega)]
      exact decide_eq_true (by omega)
theorem ad_asc (t : Dt) : Asc (ad t) := adF_asc t
theorem ad_nodup (t : Dt) : (ad t).Nodup := (ad_asc t).imp fun {p q} h e => by
  rw [e, lt_irr] at h
  exact nomatch h
/-- the number of an address is where it stands -/
theorem idx_of {t : Dt} {p : Ad} {i : Nat} (h : (ad t)[i]? = some p) : idx t p = i := by
  obtain ⟨u, hu⟩ := ad_sub (List.mem_of_getElem? h)
  have h2 := ad_at hu
  obtain ⟨l1, e1⟩ := List.getElem?_eq_some_iff.mp h
  obtain ⟨l2, e2⟩ := List.getElem?_eq_some_iff.mp h2
  exact (List.getElem_inj (ad_nodup t)).mp (e2.trans e1.symm)
theorem idx_inj {t : Dt} {p q : Ad} (hp : p ∈ ad t) (hq : q ∈ ad t) (h : idx t p = idx t q) : p = q := by
  obtain ⟨u, hu⟩ := ad_sub hp
  obtain ⟨v, hv⟩ := ad_sub hq
  have h1 := ad_at hu
  have h2 := ad_at hv
  rw [h, h2] at h1
  exact (Option.some.inj h1).symm
/-- within: the numbers from its own to the last of its bough -/
theorem within {t u : Dt} {p q : Ad} (hp : sub t p = some u) (hq : q ∈ ad t) : (idx t p ≤ idx t q ∧ idx t q < idx t p + u.nodes) ↔ p <+: q := by
  constructor
  · rintro ⟨h1, h2⟩
    obtain ⟨v, hv⟩ := ad_sub hq
    have h3 := ad_at hv
    obtain ⟨A, B, e, l, _, _⟩ := block t p u hp
    rw [e, List.getElem?_append_right (by omega), List.getElem?_append_left (by rw [List.length_map, ad_len]; omega), List.getElem?_map] at h3
    obtain ⟨q', _, e'⟩ := Option.map_eq_some_iff.mp h3
    exact ⟨q', e'⟩
  · rintro ⟨q', rfl⟩
    obtain ⟨v, hv⟩ := ad_sub hq
    obtain ⟨a, b⟩ := sub_app t p u hp q'
    rw [a] at hv
    have h4 := idx_lt hv
    have := v.nodes_pos
    omega
/-- what lies above a node is a node -/
theorem sub_pre : ∀ (t : Dt) (p q : Ad) (u : Dt), sub t (p ++ q) = some u → ∃ v, sub t p = some v
  | t, [], q, u, h => ⟨t, sub_nil t⟩
  | c k r, 0 :: p, q, u, h => sub_pre k p q u h
  | c k r, (j + 1) :: p, q, u, h => sub_pre r (j :: p) q u h
  | o, j :: p, q, _, h => by rw [List.cons_append, sub_o] at h; cases h
  | x, j :: p, q, _, h => by rw [List.cons_append, sub_x] at h; cases h
theorem pre_ad {t : Dt} {p q : Ad} (h : q ∈ ad t) (hp : p <+: q) : p ∈ ad t := by
  obtain ⟨r, rfl⟩ := hp
  obtain ⟨u, hu⟩ := ad_sub h
  obtain ⟨v, hv⟩ := sub_pre t p r u hu
  exact sub_ad hv
/-! ### the children of a row -/
theorem sub_one : ∀ (t : Dt) (j : Nat), sub t [j] = t.kids[j]?
  | x, j => by cases j <;> rfl
  | o, j => by cases j <;> rfl
  | c k r, 0 => sub_nil k
  | c k r, j + 1 => by
    show sub r [j] = r.kids[j]?
    exact sub_one r j
theorem idx_one : ∀ (t : Dt) (j : Nat) (k : Dt), t.kids[j]? = some k → (j = 0 → idx t [j] = 1) ∧ idx t [j] + k.nodes ≤ t.nodes ∧ (∀ k', t.kids[j + 1]? = some k' → idx t [j + 1] = idx t [j] + k.nodes) ∧ (t.kids[j + 1]? = none → idx t [j] + k.nodes = t.nodes)
  | x, j, k, h => by cases j <;> exact nomatch h
  | o, j, k, h => by cases j <;> exact nomatch h
  | c k0 r, 0, k, h => by
    obtain rfl : k0 = k := Option.some.inj h
    have e0 : idx (c k0 r) [0] = 1 := by
      show 1 + idx k0 [] = 1
      rw [idx_nil]
    refine ⟨fun _ => e0, ?_, fun k' h' => ?_, fun h' => ?_⟩
    · rw [e0]
      show 1 + k0.nodes ≤ k0.nodes + r.nodes
      have := r.nodes_pos
      omega
    · have h2 : r.kids[0]? = some k' := h'
      have h3 := (idx_one r 0 k' h2).1 rfl
      rw [e0]
      show k0.nodes + idx r [0] = 1 + k0.nodes
      omega
    · have h2 : r.kids[0]? = none := h'
      have h3 : r.nodes = 1 := by
        cases r with
        | x => rfl
        | o => rfl
        | c a b => exact nomatch h2
      rw [e0]
      show 1 + k0.nodes = k0.nodes + r.nodes
      omega
  | c k0 r, j + 1, k, h => by
    have h2 : r.kids[j]? = some k := h
    obtain ⟨q0, q1, q2, q3⟩ := idx_one r j k h2
    have e0 : idx (c k0 r) [j + 1] = k0.nodes + idx r [j] := rfl
    refine ⟨fun z => by omega, ?_, fun k' h' => ?_, fun h' => ?_⟩
    · rw [e0]
      show k0.nodes + idx r [j] + k.nodes ≤ k0.nodes + r.nodes
      omega
    · have := q2 k' h'
      show k0.nodes + idx r [j + 1] = _
      omega
    · have := q3 h'
      rw [e0]
      show k0.nodes + idx r [j] + k.nodes = k0.nodes + r.nodes
      omega
/-! ### leaves -/
def isLf (t : Dt) (p : Ad) : Bool := match sub t p with | some u => u.len == 0 | none => false
def lv (t : Dt) : List Ad := (ad t).filter (isLf t)
def low (t : Dt) (p : Ad) : Nat := (((ad t).take (idx t p)).filter (isLf t)).length
def lf (t : Dt) : Nat := (lv t).length
theorem isLf_app {t u : Dt} {p : Ad} (h : sub t p = some u) (q : Ad) : isLf t (p ++ q) = isLf u q := by
  unfold isLf
  rw [(sub_app t p u h q).1]
theorem filter_blk {t u : Dt} {p : Ad} (h : sub t p = some u) : ((ad u).map (p ++ ·)).filter (isLf t) = (lv u).map (p ++ ·) := by
  unfold lv
  rw [List.filter_map]
  congr 1
  refine List.filter_congr fun q _ => ?_
  exact isLf_app h q
/-- the leaves ahead, within, behind -/
theorem lv_block {t u : Dt} {p : Ad} (h : sub t p = some u) : ∃ A B, lv t = A ++ ((lv u).map (p ++ ·) ++ B) ∧ A.length = low t p ∧ A = ((ad t).take (idx t p)).filter (isLf t) ∧ Off p A ∧ Off p B := by
  obtain ⟨A, B, e, l, oa, ob⟩ := block t p u h
  have et : (ad t).take (idx t p) = A := by rw [e, ← l]; simp
  refine ⟨A.filter (isLf t), B.filter (isLf t), ?_, ?_, by rw [et], fun q hq => oa q ((List.mem_filter.mp hq).1), fun q hq => ob q ((List.mem_filter.mp hq).1)⟩
  · rw [← filter_blk h, ← List.filter_append, ← List.filter_append, ← e]
    rfl
  · unfold low
    rw [et]
theorem low_le {t u : Dt} {p : Ad} (h : sub t p = some u) : low t p + lf u ≤ lf t := by
  obtain ⟨A, B, e, l, _⟩ := lv_block h
  unfold lf
  rw [e, ← l]
  simp
/-- the next at its side -/
theorem low_next {t u : Dt} {p q : Ad} (h : sub t p = some u) (e : idx t q = idx t p + u.nodes) : low t q = low t p + lf u := by
  obtain ⟨A, B, e1, l, oa, ob⟩ := block t p u h
  have et : (ad t).take (idx t p) = A := by rw [e1, ← l]; simp
  have et2 : (ad t).take (idx t q) = A ++ (ad u).map (p ++ ·) := by
    rw [e, e1, ← l, ← ad_len u, ← List.append_assoc]
    exact List.take_left' (by simp)
  unfold low
  rw [et2, et, List.filter_append, filter_blk h, List.length_append, List.length_map]
  rfl
theorem low_first {t : Dt} {p q : Ad} (hp : p ∈ ad t) (hl : isLf t p = false) (e : idx t q = idx t p + 1) : low t q = low t p := by
  obtain ⟨u, hu⟩ := ad_sub hp
  have h := ad_at hu
  unfold low
  rw [e, List.take_add_one, h]
  simp [hl]
theorem low_nil (t : Dt) : low t [] = 0 := by
  unfold low
  rw [idx_nil]
  rfl
theorem isLf_o {t u : Dt} {p : Ad} (h : sub t p = some u) : isLf t p = (u.len == 0) := by
  unfold isLf
  rw [h]
theorem lv_leaf {u : Dt} (h : u.len = 0) : lv u = [[]] ∧ ad u = [[]] := by
  cases u with
  | x => exact ⟨rfl, rfl⟩
  | o => exact ⟨rfl, rfl⟩
  | c k r => exact nomatch h
/-- the leaves below p in the order are those ahead of its bough -/
theorem low_lt {t : Dt} {p : Ad} (hp : p ∈ ad t) : ((lv t).filter fun q => lt q p).length = low t p := by
  obtain ⟨u, hu⟩ := ad_sub hp
  have hat := ad_at hu
  have hs : ad t = (ad t).take (idx t p) ++ p :: (ad t).drop (idx t p + 1) := by
    obtain ⟨hl, he⟩ := List.getElem?_eq_some_iff.mp hat
    conv => lhs; rw [← List.take_append_drop (idx t p) (ad t), List.drop_eq_getElem_cons hl, he]
  have ha := ad_asc t
  unfold Asc at ha
  rw [hs] at ha
  obtain ⟨_, h2, h3⟩ := List.pairwise_append.mp ha
  have h4 := (List.pairwise_cons.mp h2).1
  unfold lv low
  rw [List.filter_filter]
  conv => lhs; rw [hs]
  rw [List.filter_append, List.length_append]
  have e1 : List.filter (fun a => lt a p && isLf t a) ((ad t).take (idx t p)) = List.filter (isLf t) ((ad t).take (idx t p)) := by
    refine List.filter_congr fun q hq => ?_
    rw [h3 q hq p (by simp), Bool.true_and]
  have e2 : List.filter (fun a => lt a p && isLf t a) (p :: (ad t).drop (idx t p + 1)) = [] := by
    refine List.filter_eq_nil_iff.mpr fun q hq => ?_
    rcases List.mem_cons.mp hq with rfl | hq
    · rw [lt_irr]; simp
    · rw [lt_asym p q (h4 q hq)]; simp
  rw [e1, e2]
  rfl
theorem pre_take {p q : Ad} : (q.take p.length = p) ↔ p <+: q := by
  constructor
  · intro h
    have h2 := List.take_append_drop p.length q
    rw [h] at h2
    exact ⟨q.drop p.length, h2⟩
  · rintro ⟨r, rfl⟩
    simp
theorem high_pre {t u : Dt} {p : Ad} (h : sub t p = some u) : ((lv t).filter fun q => decide (q.take p.length = p)).length = lf u := by
  obtain ⟨A, B, e, l, _, oa, ob⟩ := lv_block h
  rw [e, List.filter_append, List.filter_append]
  have e1 : List.filter (fun q => decide (q.take p.length = p)) A = [] := List.filter_eq_nil_iff.mpr fun q hq => by
    rw [decide_eq_false (fun z => oa q hq (pre_take.mp z))]; simp
  have e2 : List.filter (fun q => decide (q.take p.length = p)) B = [] := List.filter_eq_nil_iff.mpr fun q hq => by
    rw [decide_eq_false (fun z => ob q hq (pre_take.mp z))]; simp
  have e3 : List.filter (fun q => decide (q.take p.length = p)) ((lv u).map (p ++ ·)) = (lv u).map (p ++ ·) := List.filter_eq_self.mpr fun q hq => by
    obtain ⟨q', _, rfl⟩ := List.mem_map.mp hq
    exact decide_eq_true (pre_take.mpr ⟨q', rfl⟩)
  rw [e1, e2, e3]
  simp [lf]
/-- a node is a leaf when the next address does not begin with its own -/
theorem leaf_next {t : Dt} {p : Ad} {i : Nat} (h : (ad t)[i]? = some p) : isLf t p = true ↔ ∀ q, (ad t)[i + 1]? = some q → ¬ p <+: q := by
  obtain ⟨u, hu⟩ := ad_sub (List.mem_of_getElem? h)
  have hi := idx_of h
  rw [isLf_o hu]
  constructor
  · intro e q hq hpq
    have hw := (within hu (List.mem_of_getElem? hq)).mpr hpq
    have hj := idx_of hq
    have : u.nodes = 1 := by
      cases u with
      | x => rfl
      | o => rfl
      | c k r => exact nomatch e
    omega
  · intro e
    cases u with
    | x => rfl
    | o => rfl
    | c k r =>
      exfalso
      obtain ⟨a, b⟩ := sub_app t p _ hu [0]
      have h1 : sub t (p ++ [0]) = some k := by rw [a]; exact sub_nil k
      have h2 := ad_at h1
      have h3 : idx (c k r) [0] = 1 := by
        show 1 + idx k [] = 1
        rw [idx_nil]
      rw [b, h3, hi] at h2
      exact e _ h2 ⟨[0], rfl⟩
/-! ### common beginnings -/
def lcp : Ad → Ad → Nat
  | i :: p, j :: q => if i = j then lcp p q + 1 else 0
  | _, _ => 0
theorem lcp_le : ∀ p q : Ad, lcp p q ≤ p.length ∧ lcp p q ≤ q.length
  | [], _ => ⟨Nat.zero_le _, Nat.zero_le _⟩
  | _ :: _, [] => ⟨Nat.zero_le _, Nat.zero_le _⟩
  | i :: p, j :: q => by
    have := lcp_le p q
    by_cases e : i = j <;> simp [lcp, e] <;> omega
/-- q begins with the first n of p just when n is at most the common length -/
theorem lcp_pre : ∀ (p q : Ad) (n : Nat), n ≤ p.length → (p.take n <+: q ↔ n ≤ lcp p q)
  | [], q, n, h => by
    have : n = 0 := by simpa using h
    subst this
    simp
  | i :: p, [], n, h => by
    cases n with
    | zero => simp
    | succ n => simp [lcp]
  | i :: p, j :: q, n, h => by
    cases n with
    | zero => simp
    | succ n =>
      have h' : n ≤ p.length := by simpa using h
      have ih := lcp_pre p q n h'
      rw [List.take_succ_cons, List.cons_prefix_cons]
      by_cases e : i = j
      · simp [lcp, e, ih]
      · simp [lcp, e]
/-- the law's count: the first place where they differ -/
theorem lcp_first (p q : Ad) (n : Nat) (hn : n < min p.length q.length) (h : p[n]? ≠ q[n]?) (ha : p.take n <+: q) : lcp p q = n := by
  have h1 := (lcp_pre p q n (by omega)).mp ha
  have h2 : ¬ n + 1 ≤ lcp p q := by
    intro z
    have h3 := (lcp_pre p q (n + 1) (by omega)).mpr z
    obtain ⟨r, hr⟩ := h3
    apply h
    rw [← hr, List.getElem?_append_left (by rw [List.length_take]; omega), List.getElem?_take]
    simp
  omega
end Dt
end K19

set_option Elab.async false
set_option linter.all false
set_option maxRecDepth 100000
set_option maxHeartbeats 4000000
namespace K19
open PySem PySem.Spec PyProof.Rows L2
/-! ### a ShapeTree in memory -/
/-- its attributes: the form, then ten lists -/
def stF (fv : V) (L : Nat → Addr) : List (Str × V) :=
  [("form", fv), ("boughs", .ref (L 0)), ("parents", .ref (L 1)), ("kids", .ref (L 2)), ("depths", .ref (L 3)), ("sides", .ref (L 4)), ("lows", .ref (L 5)), ("highs", .ref (L 6)), ("ends", .ref (L 7)), ("leaves", .ref (L 8)), ("paths", .ref (L 9))]
section
variable (fv : V) (L : Nat → Addr)
theorem stF_form : (stF fv L).lookup ("form" : Str) = some fv := by rfl
theorem stF_0 : (stF fv L).lookup ("boughs" : Str) = some (.ref (L 0)) := by rfl
theorem stF_1 : (stF fv L).lookup ("parents" : Str) = some (.ref (L 1)) := by rfl
theorem stF_2 : (stF fv L).lookup ("kids" : Str) = some (.ref (L 2)) := by rfl
theorem stF_3 : (stF fv L).lookup ("depths" : Str) = some (.ref (L 3)) := by rfl
theorem stF_4 : (stF fv L).lookup ("sides" : Str) = some (.ref (L 4)) := by rfl
theorem stF_5 : (stF fv L).lookup ("lows" : Str) = some (.ref (L 5)) := by rfl
theorem stF_6 : (stF fv L).lookup ("highs" : Str) = some (.ref (L 6)) := by rfl
theorem stF_7 : (stF fv L).lookup ("ends" : Str) = some (.ref (L 7)) := by rfl
theorem stF_8 : (stF fv L).lookup ("leaves" : Str) = some (.ref (L 8)) := by rfl
theorem stF_9 : (stF fv L).lookup ("paths" : Str) = some (.ref (L 9)) := by rfl
theorem stF_grow : (stF fv L).lookup ("_grow" : Str) = none := by rfl
end

theorem putF_new {f : Str} {v : V} : ∀ {fs : List (Str × V)}, (∀ g ∈ fs.map (·.1), ¬ g = f) → putF f v fs = fs ++ [(f, v)]
  | [], _ => rfl
  | (g, y) :: r, h => by
    show (if g = f then (g, v) :: r else (g, y) :: putF f v r) = _
    rw [if_neg (h g (by simp)), putF_new (fs := r) fun z hz => h z (by simp [hz])]
    rfl
structure TreeAt (C : Addr) (H : Hp) (a dx : Addr) (fv : V) (L : Nat → Addr) (S : Nat → List V) : Prop where
  ob : H a = some (.ins C dx (stF fv L))
  ls : ∀ i, i < 10 → H (L i) = some (.lst (S i))
  inj : ∀ i j, i < 10 → j < 10 → L i = L j → i = j
/-- what is no list of the tree stands as before -/
def Keep (L : Nat → Addr) (H H' : Hp) : Prop := ∀ y o, H y = some o → (∀ i, i < 10 → y ≠ L i) → H' y = some o
/-- tuples stand as before -/
def KeepT (H H' : Hp) : Prop := ∀ y xs, (H y = some (.tup xs) → H' y = some (.tup xs)) ∧ (∀ o, H y = some (.frz o (.tup xs)) → H' y = some (.frz o (.tup xs)))
theorem Keep.refl (L : Nat → Addr) (H : Hp) : Keep L H H := fun _ _ h _ => h
theorem Keep.trans {L : Nat → Addr} {H H1 H2 : Hp} (a : Keep L H H1) (b : Keep L H1 H2) : Keep L H H2 := fun y o h n => b y o (a y o h n) n
theorem Keep.same {L : Nat → Addr} {H H1 H2 : Hp} (a : Keep L H H1) (b : Same H1 H2) : Keep L H H2 := fun y o h n => b y o (a y o h n)
theorem KeepT.refl (H : Hp) : KeepT H H := fun _ _ => ⟨fun h => h, fun _ h => h⟩
theorem KeepT.trans {H H1 H2 : Hp} (a : KeepT H H1) (b : KeepT H1 H2) : KeepT H H2 := fun y xs => ⟨fun h => (b y xs).1 ((a y xs).1 h), fun o h => (b y xs).2 o ((a y xs).2 o h)⟩
theorem KeepT.of_same {H H' : Hp} (e : Same H H') : KeepT H H' := fun y xs => ⟨fun h => e _ _ h, fun o h => e _ _ h⟩
theorem TreeAt.keepT {C : Addr} {H H' : Hp} {a dx : Addr} {fv : V} {L : Nat → Addr} {S : Nat → List V} (t : TreeAt C H a dx fv L S) (k : Keep L H H') : KeepT H H' := fun y xs =>
  ⟨fun h => k y _ h (fun i hi e => by rw [e, t.ls i hi] at h; exact HO.noConfusion (Option.some.inj h)), fun o h => k y _ h (fun i hi e => by rw [e, t.ls i hi] at h; exact HO.noConfusion (Option.some.inj h))⟩
def st (S : Nat → List V) (i : Nat) (xs : List V) : Nat → List V := fun j => if j = i then xs else S j
theorem TreeAt.put {C : Addr} {H : Hp} {a dx : Addr} {fv : V} {L : Nat → Addr} {S : Nat → List V} (t : TreeAt C H a dx fv L S) {i : Nat} (hi : i < 10) (xs : List V) : TreeAt C (upd H (L i) (.lst xs)) a dx fv L (st S i xs) := by
  refine ⟨?_, fun j hj => ?_, t.inj⟩
  · rw [upd_ne]
    · exact t.ob
    · intro e
      have h := t.ls i hi
      rw [← e, t.ob] at h
      exact HO.noConfusion (Option.some.inj h)
  · unfold st
    by_cases e : j = i
    · subst e
      rw [upd_same, if_pos rfl]
    · rw [upd_ne (fun z => e (t.inj j i hj hi z)), if_neg e]
      exact t.ls j hj
theorem TreeAt.same {C : Addr} {H H' : Hp} {a dx : Addr} {fv : V} {L : Nat → Addr} {S : Nat → List V} (t : TreeAt C H a dx fv L S) (e : Same H H') : TreeAt C H' a dx fv L S := ⟨e _ _ t.ob, fun j hj => e _ _ (t.ls j hj), t.inj⟩
theorem Keep.put {L : Nat → Addr} {H H' : Hp} (k : Keep L H H') {i : Nat} (hi : i < 10) (o : HO) : Keep L H (upd H' (L i) o) := fun y u h n => by
  rw [upd_ne (n i hi)]
  exact k y u h n
theorem kt_sqt {K : PySem.W.Frag} {H H' : Hp} {a : Addr} {xs : List V} (e : KeepT H H') (h : SqT K H a xs) : SqT K H' a xs := by
  rcases h with (h | ⟨o, h⟩) | h
  · exact .inl (.inl ((e _ _).1 h))
  · exact .inl (.inr ⟨o, (e _ _).2 o h⟩)
  · exact .inr h
/-- a row of shapes -/
inductive ShF (K : PySem.W.Frag) (H : Hp) : List V → Dt → Prop
  | nil : ShF K H [] .o
  | cons {a : Addr} {vs ws : List V} {k r : Dt} (h : SqT K H a vs) (p : ShF K H vs k) (q : ShF K H ws r) : ShF K H (.ref a :: ws) (.c k r)
theorem ShF.keep {K : PySem.W.Frag} {H H' : Hp} (e : KeepT H H') {vs : List V} {t : Dt} (h : ShF K H vs t) : ShF K H' vs t := by
  induction h with
  | nil => exact .nil
  | cons h _ _ ih1 ih2 => exact .cons (kt_sqt e h) ih1 ih2
theorem ShF.dtf {K : PySem.W.Frag} {H : Hp} {vs : List V} {t : Dt} (h : ShF K H vs t) : DtF K H vs t := by
  induction h with
  | nil => exact .nil
  | cons h _ _ ih1 ih2 => exact .tup h ih1 ih2
theorem ShF.len {K : PySem.W.Frag} {H : Hp} {vs : List V} {t : Dt} (h : ShF K H vs t) : vs.length = t.len := h.dtf.len
/-- a shape -/
def ShV (K : PySem.W.Frag) (H : Hp) (v : V) (t : Dt) : Prop := ∃ a vs, v = .ref a ∧ SqT K H a vs ∧ ShF K H vs t
theorem ShV.keep {K : PySem.W.Frag} {H H' : Hp} (e : KeepT H H') {v : V} {t : Dt} (h : ShV K H v t) : ShV K H' v t := by
  obtain ⟨a, vs, h1, h2, h3⟩ := h
  exact ⟨a, vs, h1, kt_sqt e h2, h3.keep e⟩
theorem ShF.at {K : PySem.W.Frag} {H : Hp} {vs : List V} {t : Dt} (h : ShF K H vs t) : ∀ (i : Nat) (v : V), vs[i]? = some v → ∃ k, t.kids[i]? = some k ∧ ShV K H v k := by
  induction h with
  | nil => intro i v h; simp at h
  | @cons a vs ws k r h p q _ ih2 =>
    intro i v hi
    cases i with
    | zero =>
      obtain rfl : V.ref a = v := by simpa using hi
      exact ⟨k, rfl, a, vs, rfl, h, p⟩
    | succ i =>
      have hi' : ws[i]? = some v := by simpa using hi
      exact ih2 i v hi'
namespace Dt
/-- the greatest depth -/
def ht : Dt → Nat | c k r => max (k.ht + 1) r.ht | _ => 0
theorem ht_kid : ∀ (t : Dt) (i : Nat) (k : Dt), t.kids[i]? = some k → k.ht + 1 ≤ t.ht
  | x, i, k, h => by simp [kids] at h
  | o, i, k, h => by simp [kids] at h
  | c k0 r, 0, k, h => by
    obtain rfl : k0 = k := Option.some.inj h
    exact Nat.le_max_left _ _
  | c k0 r, i + 1, k, h => Nat.le_trans (ht_kid r i k h) (Nat.le_max_right _ _)
/-! the addresses child by child -/
def rowsN (f : Dt → List Ad) (u : Dt) : Nat → List Ad
  | 0 => []
  | i + 1 => rowsN f u i ++ match u.kids[i]? with | some k => (f k).map (List.cons i) | none => []
theorem rowsN_up (f : Dt → List Ad) (hf : ∀ t, ∀ q ∈ f t, True) (k r : Dt) : ∀ i, rowsN f (c k r) (i + 1) = (f k).map (List.cons 0) ++ (rowsN f r i).map up
  | 0 => by simp [rowsN, kids]
  | i + 1 => by
    have ih := rowsN_up f hf k r i
    show rowsN f (c k r) (i + 1) ++ _ = _
    rw [ih]
    show _ ++ (match r.kids[i]? with | some k => (f k).map (List.cons (i + 1)) | none => []) = _
    show _ = (f k).map (List.cons 0) ++ (rowsN f r i ++ match r.kids[i]? with | some k => (f k).map (List.cons i) | none => []).map up
    rw [List.map_append, List.append_assoc]
    congr 2
    cases r.kids[i]? with
    | none => rfl
    | some k' => simp [up, Function.comp_def]
theorem adF_rows : ∀ u : Dt, adF u = rowsN ad u u.len
  | x => rfl
  | o => rfl
  | c k r => by
    show (ad k).map (List.cons 0) ++ (adF r).map up = rowsN ad (c k r) (r.len + 1)
    rw [rowsN_up ad (fun _ _ _ => trivial), adF_rows r]
theorem ad_rows (u : Dt) : ad u = [] :: rowsN ad u u.len := by
  rw [← adF_rows]
  rfl
theorem lvF_rows : ∀ u : Dt, (adF u).filter (isLf u) = rowsN lv u u.len
  | x => rfl
  | o => rfl
  | c k r => by
    show ((ad k).map (List.cons 0) ++ (adF r).map up).filter (isLf (c k r)) = rowsN lv (c k r) (r.len + 1)
    rw [rowsN_up lv (fun _ _ _ => trivial), ← lvF_rows r, List.filter_append]
    congr 1
    · unfold lv
      rw [List.filter_map]
      rfl
    · rw [List.filter_map]
      congr 1
      refine List.filter_congr fun q hq => ?_
      obtain ⟨j, p, rfl⟩ := adF_cons r q hq
      rfl
theorem lv_rows (u : Dt) (h : u.len ≠ 0) : lv u = rowsN lv u u.len := by
  rw [← lvF_rows]
  unfold lv ad
  have : isLf u [] = false := by
    rw [isLf_o (sub_nil u)]
    simpa using h
  rw [List.filter_cons, this]
  rfl
theorem idx_rows (u : Dt) : ∀ i, i < u.len → idx u [i] = 1 + (rowsN ad u i).length
  | 0, h => by
    rw [← kids_len] at h
    exact (idx_one u 0 _ (List.getElem?_eq_getElem h)).1 rfl
  | i + 1, h => by
    have ih := idx_rows u i (by omega)
    rw [← kids_len] at h
    have h1 : u.kids[i]? = some u.kids[i] := List.getElem?_eq_getElem (by omega)
    have h2 : u.kids[i + 1]? = some u.kids[i + 1] := List.getElem?_eq_getElem h
    have h3 := (idx_one u i _ h1).2.2.1 _ h2
    rw [h3, ih]
    show 1 + (rowsN ad u i).length + _ = 1 + (rowsN ad u i ++ match u.kids[i]? with | some k => (ad k).map (List.cons i) | none => []).length
    rw [h1, List.length_append, List.length_map, ad_len]
    omega
theorem low_rows {T u : Dt} {p : Ad} (hp : sub T p = some u) : ∀ i, i < u.len → low T (p ++ [i]) = low T p + (rowsN lv u i).length
  | 0, h => by
    obtain ⟨a, b⟩ := sub_app T p u hp [0]
    have h' : 0 < u.kids.length := by rw [kids_len]; exact h
    have h1 := (idx_one u 0 _ (List.getElem?_eq_getElem h')).1 rfl
    refine (low_first (sub_ad hp) ?_ (by omega)).trans rfl
    rw [isLf_o hp]
    simp
    omega
  | i + 1, h => by
    have ih := low_rows hp i (by omega)
    have h' := h
    rw [← kids_len] at h'
    have h1 : u.kids[i]? = some u.kids[i] := List.getElem?_eq_getElem (by omega)
    have h2 : u.kids[i + 1]? = some u.kids[i + 1] := List.getElem?_eq_getElem h'
    have h3 := (idx_one u i _ h1).2.2.1 _ h2
    obtain ⟨a, b⟩ := sub_app T p u hp [i]
    obtain ⟨a2, b2⟩ := sub_app T p u hp [i + 1]
    rw [sub_one, h1] at a
    have h4 := low_next a (q := p ++ [i + 1]) (by omega)
    rw [h4, ih]
    show low T p + (rowsN lv u i).length + _ = low T p + (rowsN lv u i ++ match u.kids[i]? with | some k => (lv k).map (List.cons i) | none => []).length
    rw [h1, List.length_append, List.length_map]
    unfold lf
    omega
theorem rowsN_le {f : Dt → List Ad} {u : Dt} : ∀ {i j : Nat}, i ≤ j → (rowsN f u i).length ≤ (rowsN f u j).length
  | i, 0, h => by
    have : i = 0 := by omega
    subst this
    exact Nat.le_refl _
  | i, j + 1, h => by
    by_cases e : i = j + 1
    · subst e; exact Nat.le_refl _
    · refine Nat.le_trans (rowsN_le (j := j) (by omega)) ?_
      show _ ≤ (rowsN f u j ++ _).length
      rw [List.length_append]
      omega
end Dt
end K19

set_option Elab.async false
set_option linter.all false
set_option maxRecDepth 100000
set_option maxHeartbeats 4000000
namespace K19
open PySem PySem.Spec PyProof.Rows L2 Dt
/-! ### what the lists hold for a node -/
def pth (T : Dt) (p : Ad) (n : Nat) : List V := (List.range n).map fun k => V.int (T.idx (p.take k) : Nat)
def parV (T : Dt) (q : Ad) : V := if q = [] then .non else .int (T.idx q.dropLast : Nat)
def sideI (q : Ad) : Int := match q.getLast? with | some i => (i : Nat) | none => -1
def kidV (T : Dt) (q : Ad) (w : Dt) : List V := (List.range w.len).map fun j => V.int (T.idx (q ++ [j]) : Nat)
def Cell (K : PySem.W.Frag) (H : Hp) (T : Dt) : Nat → V → Ad → Prop
  | 0, v, q => ∃ w, T.sub q = some w ∧ ShV K H v w
  | 1, v, q => v = parV T q
  | 2, v, q => ∃ w b, T.sub q = some w ∧ v = .ref b ∧ SqT K H b (kidV T q w)
  | 3, v, q => v = .int (q.length : Nat)
  | 4, v, q => v = .int (sideI q)
  | 5, v, q => v = .int (T.low q : Nat)
  | 6, v, q => ∃ w, T.sub q = some w ∧ v = .int (T.low q + w.lf : Nat)
  | 7, v, q => ∃ w, T.sub q = some w ∧ v = .int (T.idx q + w.nodes : Nat)
  | 8, v, q => v = .int (T.idx q : Nat)
  | _, v, q => ∃ b, v = .ref b ∧ SqT K H b (pth T q (q.length + 1))
theorem Cell.keep {K : PySem.W.Frag} {H H' : Hp} {T : Dt} (e : KeepT H H') : ∀ (i : Nat) (v : V) (q : Ad), Cell K H T i v q → Cell K H' T i v q
  | 0, v, q, ⟨w, h1, h2⟩ => ⟨w, h1, h2.keep e⟩
  | 1, v, q, h => h
  | 2, v, q, ⟨w, b, h1, h2, h3⟩ => ⟨w, b, h1, h2, kt_sqt e h3⟩
  | 3, v, q, h => h
  | 4, v, q, h => h
  | 5, v, q, h => h
  | 6, v, q, h => h
  | 7, v, q, h => h
  | 8, v, q, h => h
  | _ + 9, v, q, ⟨b, h1, h2⟩ => ⟨b, h1, kt_sqt e h2⟩
def aof (i : Nat) : Dt → List Ad := if i < 8 then ad else lv
def start (T : Dt) (p : Ad) (i : Nat) : Nat := if i < 8 then T.idx p else T.low p
def Grown (K : PySem.W.Frag) (H : Hp) (T : Dt) (l : Nat → List Ad) (S S' : Nat → List V) : Prop := ∀ i, i < 10 → ∃ R, S' i = S i ++ R ∧ Paired (Cell K H T i) R (l i)
def spGrow (K : PySem.W.Frag) (C : Addr) (n : Nat) : Sp := fun vs H Q _ => ∃ (a b ab dx : Addr) (bs : List V) (T u : Dt) (p : Ad) (fv : V) (L : Nat → Addr) (S : Nat → List V),
  vs = [.ref a, .ref b, .ref ab, .int (sideI p)] ∧ TreeAt C H a dx fv L S ∧ SqT K H b bs ∧ ShF K H bs u ∧ SqT K H ab (pth T p p.length) ∧ T.sub p = some u ∧ T.nodes ≤ 1000 ∧ u.ht < n ∧ p.length + n ≤ 1000 ∧
  (∀ i, i < 10 → (S i).length = start T p i) ∧
  ∀ H' S', TreeAt C H' a dx fv L S' → Keep L H H' → Grown K H' T (fun i => ((aof i) u).map (p ++ ·)) S S' → Q .non H'
theorem rCatA_all {K : PySem.W.Frag} {H : Hp} {a b : Addr} {xs ys : List V} {Q : VK} (ha : SqT K H a xs) (hb : SqT K H b ys) (hz : xs.length + ys.length ≤ sizeLine) (h : ∀ tp H2, Same H H2 → SqT K H2 tp (xs ++ ys) → Q (.ref tp) H2) : rCatA K (.ref a) (.ref b) H Q := by
  refine ⟨a, b, xs, ys, rfl, rfl, ha, hb, hz, fun e => ?_, fun _ e => ?_, fun _ _ p hp => ?_⟩
  · subst e
    exact h b H (fun _ _ z => z) hb
  · subst e
    refine h a H (fun _ _ z => z) ?_
    rw [List.append_nil]
    exact ha
  · exact h p _ (same_new hp) (SqT.of upd_same)
theorem pe_conv {X : Cx} {e : Expr} {t t' : TE} (h : PE X e t) (c : ∀ σ H Q, t' σ H Q → t σ H Q) : PE X e t' := ⟨fun pins s σ H Q I k => h.run pins s σ H Q I (c σ H Q k)⟩
theorem ps_conv {X : Cx} {e : Stmt} {t t' : TS} (h : PS X e t) (c : ∀ D σ H, t' D σ H → t D σ H) : PS X e t' := ⟨fun pins s σ H D I k => h.run pins s σ H D I (c D σ H k)⟩
theorem ixN_nat {n j : Nat} (h : j < n) : ixN n (j : Int) = some j := by
  unfold ixN
  rw [if_pos (by omega), if_pos (by omega)]
  rfl
theorem atI_last {l : List V} {v : V} : atI (l ++ [v]) (-1) = some v := by
  unfold atI ixN
  rw [if_neg (by decide), if_pos (by rw [List.length_append]; show -((l.length + 1 : Nat) : Int) ≤ -1; omega)]
  show (l ++ [v])[(-1 + ((l ++ [v]).length : Int)).toNat]? = some v
  have : (-1 + ((l ++ [v]).length : Int)).toNat = l.length := by rw [List.length_append, List.length_singleton]; omega
  rw [this]
  simp
/-- t[-1] if t else None -/
def tLast (K : PySem.W.Frag) (i : Nat) : TE := fun σ H Q => ∃ ab xs, σ[i]? = some (some (.ref ab)) ∧ SqT K H ab xs ∧ Q (xs.getLast?.getD .non) H
/-- if not bough: self.leaves.append(node); self.paths.append(path) -/
def tLeafS (K : PySem.W.Frag) (C : Addr) : TS := fun D σ H => ∃ a dx b bs fv L S tp node, σ[0]? = some (some (.ref a)) ∧ σ[1]? = some (some (.ref b)) ∧ σ[4]? = some (some (.int node)) ∧ σ[5]? = some (some (.ref tp)) ∧ TreeAt C H a dx fv L S ∧ SqT K H b bs ∧ (S 8).length < sizeLine ∧ (S 9).length < sizeLine ∧
  ∀ H', TreeAt C H' a dx fv L (if bs = [] then st (st S 8 (S 8 ++ [.int node])) 9 (S 9 ++ [.ref tp]) else S) → Keep L H H' → D.nx σ H'
theorem len_lt_nodes : ∀ t : Dt, t.len < t.nodes
  | x => Nat.lt_succ_self 0
  | o => Nat.lt_succ_self 0
  | c k r => by
    have h1 := len_lt_nodes r
    have h2 := k.nodes_pos
    show r.len + 1 < k.nodes + r.nodes
    omega
theorem sideI_snoc (p : Ad) (i : Nat) : sideI (p ++ [i]) = (i : Nat) := by
  unfold sideI
  rw [List.getLast?_append]
  rfl
theorem pth_snoc (T : Dt) (p : Ad) (i : Nat) : pth T (p ++ [i]) (p ++ [i]).length = pth T p (p.length + 1) := by
  unfold pth
  rw [List.length_append, List.length_singleton]
  refine List.map_congr_left fun k hk => ?_
  have : k ≤ p.length := by
    have := List.mem_range.mp hk
    omega
  rw [List.take_append_of_le_length this]
theorem pth_last (T : Dt) (p : Ad) : (pth T p p.length).getLast?.getD .non = parV T p := by
  unfold parV pth
  rcases List.eq_nil_or_concat p with rfl | ⟨l, i, rfl⟩
  · rfl
  · rw [List.concat_eq_append, if_neg (by simp), List.length_append, List.length_singleton, List.range_succ, List.map_append, List.getLast?_append, List.dropLast_concat]
    simp
theorem rowsN_succ (f : Dt → List Ad) {u k : Dt} {i : Nat} (h : u.kids[i]? = some k) (p : Ad) : (rowsN f u (i + 1)).map (p ++ ·) = (rowsN f u i).map (p ++ ·) ++ (f k).map ((p ++ [i]) ++ ·) := by
  show (rowsN f u i ++ match u.kids[i]? with | some k => (f k).map (List.cons i) | none => []).map (p ++ ·) = _
  rw [h, List.map_append, List.map_map]
  congr 1
  refine List.map_congr_left fun q _ => ?_
  simp
theorem set_mid (l r : List V) (x y : V) (n : Nat) (h : l.length = n) : ((l ++ [x]) ++ r).set n y = l ++ (y :: r) := by
  subst h
  rw [List.append_assoc]
  rw [List.set_append_right _ _ (Nat.le_refl _)]
  simp
/-- what the walks ask of the class -/
structure TCl (K : PySem.W.Frag) (mg : Str → Option Value) (C fG : Addr) : Prop where
  cl : Cls K C
  mG : Meth K C "_grow" fG
  nF : NoAttr K C "form"
  n0 : NoAttr K C "boughs"
  n1 : NoAttr K C "parents"
  n2 : NoAttr K C "kids"
  n3 : NoAttr K C "depths"
  n4 : NoAttr K C "sides"
  n5 : NoAttr K C "lows"
  n6 : NoAttr K C "highs"
  n7 : NoAttr K C "ends"
  n8 : NoAttr K C "leaves"
  n9 : NoAttr K C "paths"
section
variable {P : Program} {w : World} {K : PySem.W.Frag} {mg : Str → Option Value} {base : Heap}
theorem ok_grow {C f : Addr} {fd : FuncData} {n : Nat} (F : Fun K "_grow" "ShapeTree._grow" s_ShapeTree_grow f fd) (b : Binds K fd ["self", "bough", "above", "side"] []) (G : FnOk P w K mg base CX0 n f fd ["self", "bough", "above", "side"] (spGrow K C n))
    (T : Txt K mg) (TC : TCl K mg C f) : FnOk P w K mg base CX0 (n + 1) f fd ["self", "bough", "above", "side"] (spGrow K C (n + 1)) := by
  refine F.ok sc_ShapeTree_grow (fun vs H Q E h => ?_) (fun cdv A outer s H vs Q E hr h => ?_)
  · obtain ⟨a, b, ab, dx, bs, T, u, p, fv, L, S, rfl, _⟩ := h
    rfl
  obtain ⟨a, b', ab, dx, bs, D, u, p, fv, L, S, rfl, TA, hb, hS, hab, hsub, hD, hht, hpl, hst, q⟩ := h
  refine ⟨_, pss_cons (ps_set (i := 4) sc_ShapeTree_grow.nd rfl (.inl rfl) (pe_callB call_len_seq (by rfl) T.len PySem.boot_len (pa_cons (pe_fld (pv 0) rfl) pa_nil)))
    (pss_cons (ps_set (i := 5) sc_ShapeTree_grow.nd rfl (.inl rfl) (pe_op op_catA (pv 2) (pe_tup (pa_cons (pv 4) pa_nil))))
    (pss_cons (ps_expr (pe_bm PySem.F.plainAttrs_list PySem.F.slot_list_append PySem.F.type_list_append mt_append (pe_fld (pv 0) rfl) (pa_cons (pv 1) pa_nil)))
    (pss_cons (ps_expr (pe_bm PySem.F.plainAttrs_list PySem.F.slot_list_append PySem.F.type_list_append mt_append (pe_fld (pv 0) rfl) (pa_cons (pe_conv (t' := tLast K 2) (pe_ifExp (pt_truth (pv 2) (by intro _; rfl)) (pe_ix ix_tup (pv 2) (pe_un un_neg pe_int) (fun _ _ => rfl)) pe_non) (by
      rintro σ H Q ⟨ab, xs, h1, h2, q⟩
      refine ⟨_, h1, !xs.isEmpty, .inr (.inl ⟨xs, h2, rfl⟩), ?_⟩
      rcases List.eq_nil_or_concat xs with rfl | ⟨l, v, rfl⟩
      · exact iteF q
      · rw [show (!(l.concat v).isEmpty) = true by simp]
        rw [List.concat_eq_append] at h2 q
        refine iteT ?_
        refine ⟨_, h1, _, rfl, _, _, _, _, rfl, rfl, h2, atI_last, ?_⟩
        rw [List.getLast?_append] at q
        exact q)) pa_nil)))
    (pss_cons (ps_expr (pe_bm PySem.F.plainAttrs_list PySem.F.slot_list_append PySem.F.type_list_append mt_append (pe_fld (pv 0) rfl) (pa_cons (pe_callB call_len_seq (by rfl) T.len PySem.boot_len (pa_cons (pv 2) pa_nil)) pa_nil)))
    (pss_cons (ps_expr (pe_bm PySem.F.plainAttrs_list PySem.F.slot_list_append PySem.F.type_list_append mt_append (pe_fld (pv 0) rfl) (pa_cons (pv 3) pa_nil)))
    (pss_cons (ps_expr (pe_bm PySem.F.plainAttrs_list PySem.F.slot_list_append PySem.F.type_list_append mt_append (pe_fld (pv 0) rfl) (pa_cons (pe_callB call_len_seq (by rfl) T.len PySem.boot_len (pa_cons (pe_fld (pv 0) rfl) pa_nil)) pa_nil)))
    (pss_cons (ps_expr (pe_bm PySem.F.plainAttrs_list PySem.F.slot_list_append PySem.F.type_list_append mt_append (pe_fld (pv 0) rfl) (pa_cons (pe_tup pa_nil) pa_nil)))
    (pss_cons (ps_expr (pe_bm PySem.F.plainAttrs_list PySem.F.slot_list_append PySem.F.type_list_append mt_append (pe_fld (pv 0) rfl) (pa_cons pe_int pa_nil)))
    (pss_cons (ps_expr (pe_bm PySem.F.plainAttrs_list PySem.F.slot_list_append PySem.F.type_list_append mt_append (pe_fld (pv 0) rfl) (pa_cons pe_int pa_nil)))
    (pss_cons (ps_conv (t' := tLeafS K C) (ps_if (pt_not (pt_truth (pv 1) (by intro _; rfl)))
      (pss_cons (ps_expr (pe_bm PySem.F.plainAttrs_list PySem.F.slot_list_append PySem.F.type_list_append mt_append (pe_fld (pv 0) rfl) (pa_cons (pv 4) pa_nil)))
      (pss_one (ps_expr (pe_bm PySem.F.plainAttrs_list PySem.F.slot_list_append PySem.F.type_list_append mt_append (pe_fld (pv 0) rfl) (pa_cons (pv 5) pa_nil))))) pss_nil) (by
      rintro D σ H ⟨a, dx, b, bs, fv, L, S, tp, node, e0, e1, e4, e5, TA, hb, z8, z9, q⟩
      refine ⟨_, e1, !bs.isEmpty, .inr (.inl ⟨bs, hb, rfl⟩), ?_⟩
      cases bs with
      | nil =>
        refine iteT ?_
        refine ⟨_, e0, a, C, dx, _, _, rfl, TA.ob, TC.cl, TC.n8, stF_8 _ _, .inl ⟨rfl, _, SqL.of (TA.ls 8 (by decide))⟩, _, e4, L 8, _, _, rfl, rfl, TA.ls 8 (by decide), z8, ?_⟩
        have TA1 := TA.put (i := 8) (by decide) (S 8 ++ [.int node])
        refine ⟨_, e0, a, C, dx, _, _, rfl, TA1.ob, TC.cl, TC.n9, stF_9 _ _, .inl ⟨rfl, _, SqL.of (TA1.ls 9 (by decide))⟩, _, e5, L 9, _, _, rfl, rfl, TA1.ls 9 (by decide), z9, ?_⟩
        refine q _ ?_ (((Keep.refl L H).put (i := 8) (by decide) _).put (i := 9) (by decide) _)
        rw [if_pos rfl]
        exact TA1.put (i := 9) (by decide) (S 9 ++ [.ref tp])
      | cons x r =>
        refine iteF ?_
        exact q _ (by rw [if_neg (by simp)]; exact TA) (Keep.refl L H)))
    (pss_cons (ps_set (i := 6) sc_ShapeTree_grow.nd rfl (.inl rfl) (pe_lst pa_nil))
    (pss_cons (ps_for PassesOwn.never rfl (pi_enumT (by rfl) T.enumerate (pa_cons (pv 1) pa_nil)) (pg_tup rfl (pgs_cons (pg_name (i := 7) sc_ShapeTree_grow.nd rfl (.inl rfl)) (pgs_cons (pg_name (i := 8) sc_ShapeTree_grow.nd rfl (.inl rfl)) pgs_nil)))
      (pss_cons (ps_expr (pe_bm PySem.F.plainAttrs_list PySem.F.slot_list_append PySem.F.type_list_append mt_append (pv 6) (pa_cons (pe_callB call_len_seq (by rfl) T.len PySem.boot_len (pa_cons (pe_fld (pv 0) rfl) pa_nil)) pa_nil)))
      (pss_one (ps_expr (pe_meth (pv 0) TC.cl TC.mG G hr b .nil pass0 (pa_cons (pv 8) (pa_cons (pv 5) (pa_cons (pv 7) pa_nil))))))))
    (pss_cons (ps_asg (pe_callTy call_tuple_of (by rfl) T.tuple PyProof.Rows.boot_tuple (pa_cons (pv 6) pa_nil)) (pg_sub (pe_fld (pv 0) rfl) (pv 4) set_list))
    (pss_cons (ps_asg (pe_callB call_len_seq (by rfl) T.len PySem.boot_len (pa_cons (pe_fld (pv 0) rfl) pa_nil)) (pg_sub (pe_fld (pv 0) rfl) (pv 4) set_list))
    (pss_one (ps_asg (pe_callB call_len_seq (by rfl) T.len PySem.boot_len (pa_cons (pe_fld (pv 0) rfl) pa_nil)) (pg_sub (pe_fld (pv 0) rfl) (pv 4) set_list))))))))))))))))), ?_⟩
  have hrec := sub_app D p u hsub
  have hidx := idx_lt hsub
  have hlow := low_le hsub
  have hun := u.nodes_pos
  have hlf : D.lf ≤ D.nodes := by
    rw [← ad_len]
    exact List.length_filter_le _ _
  have hsm : ∀ i, i < 10 → (S i).length ≤ 1000 := fun i hi => by
    rw [hst i hi]
    unfold start
    split <;> omega
  have sz : ∀ i, i < 10 → (S i).length < sizeLine := fun i hi => small1000 (hsm i hi)
  have hl0 : (S 0).length = D.idx p := hst 0 (by decide)
  -- node = len(self.boughs)
  refine ⟨_, rfl, a, C, dx, _, _, rfl, TA.ob, TC.cl, TC.n0, stF_0 _ _, L 0, _, rfl, .inl (SqL.of (TA.ls 0 (by decide))), ?_⟩
  rw [hl0]
  -- path = above + (node,)
  refine ⟨_, rfl, _, rfl, (by show 1 ≤ sizeLine; decide), fun t1 ht1 => ?_⟩
  have s1 : Same H (upd H t1 (.tup [.int (D.idx p : Nat)])) := same_new ht1
  have epl : (pth D p p.length).length = p.length := by unfold pth; rw [List.length_map, List.length_range]
  have epth : pth D p p.length ++ [V.int (D.idx p : Nat)] = pth D p (p.length + 1) := by
    unfold pth
    rw [List.range_succ, List.map_append, List.map_singleton, List.take_length]
  refine rCatA_all (same_sqt s1 hab) (SqT.of upd_same) (Nat.le_of_lt (small1000 (by rw [epl, List.length_singleton]; omega))) fun tp H2 s2' htp => ?_
  rw [epth] at htp
  have s2 : Same H H2 := s1.trans s2'
  have TA2 := TA.same s2
  have K2 : Keep L H2 H2 := Keep.refl L H2
  have hab2 := same_sqt s2 hab
  have hb2 := same_sqt s2 hb
  have hS2 : ShF K H2 bs u := hS.keep (KeepT.of_same s2)
  -- self.boughs.append(bough)
  refine ⟨_, rfl, a, C, dx, _, _, rfl, TA2.ob, TC.cl, TC.n0, stF_0 _ _, .inl ⟨rfl, _, SqL.of (TA2.ls 0 (by decide))⟩, _, rfl, L 0, _, _, rfl, rfl, TA2.ls 0 (by decide), sz 0 (by decide), ?_⟩
  have TA3 := TA2.put (i := 0) (by decide) (S 0 ++ [.ref b'])
  have K3 := K2.put (i := 0) (by decide) (.lst (S 0 ++ [.ref b']))
  revert TA3 K3
  generalize upd H2 (L 0) (.lst (S 0 ++ [.ref b'])) = H3
  intro TA3 K3
  have kt3 := kt_sqt (TA2.keepT K3) hab2
  -- parents
  have l3 : H3 (L 1) = some (.lst (S 1)) := TA3.ls 1 (by decide)
  refine ⟨_, rfl, a, C, dx, _, _, rfl, TA3.ob, TC.cl, TC.n1, stF_1 _ _, .inl ⟨rfl, _, SqL.of l3⟩, ab, _, rfl, kt3, L 1, _, _, rfl, rfl, l3, sz 1 (by decide), ?_⟩
  have TA4 := TA3.put (i := 1) (by decide) (S 1 ++ [(pth D p p.length).getLast?.getD .non])
  have K4 := K3.put (i := 1) (by decide) (.lst (S 1 ++ [(pth D p p.length).getLast?.getD .non]))
  revert TA4 K4
  generalize upd H3 (L 1) (.lst (S 1 ++ [(pth D p p.length).getLast?.getD .non])) = H4
  intro TA4 K4
  have kt4 := kt_sqt (TA2.keepT K4) hab2
  -- depths
  have l4 : H4 (L 3) = some (.lst (S 3)) := TA4.ls 3 (by decide)
  refine ⟨_, rfl, a, C, dx, _, _, rfl, TA4.ob, TC.cl, TC.n3, stF_3 _ _, .inl ⟨rfl, _, SqL.of l4⟩, _, rfl, ab, _, rfl, .inr kt4, L 3, _, _, rfl, rfl, l4, sz 3 (by decide), ?_⟩
  have TA5 := TA4.put (i := 3) (by decide) (S 3 ++ [.int ((pth D p p.length).length : Nat)])
  have K5 := K4.put (i := 3) (by decide) (.lst (S 3 ++ [.int ((pth D p p.length).length : Nat)]))
  revert TA5 K5
  generalize upd H4 (L 3) (.lst (S 3 ++ [.int ((pth D p p.length).length : Nat)])) = H5
  intro TA5 K5
  -- sides
  have l5 : H5 (L 4) = some (.lst (S 4)) := TA5.ls 4 (by decide)
  refine ⟨_, rfl, a, C, dx, _, _, rfl, TA5.ob, TC.cl, TC.n4, stF_4 _ _, .inl ⟨rfl, _, SqL.of l5⟩, _, rfl, L 4, _, _, rfl, rfl, l5, sz 4 (by decide), ?_⟩
  have TA6 := TA5.put (i := 4) (by decide) (S 4 ++ [.int (sideI p)])
  have K6 := K5.put (i := 4) (by decide) (.lst (S 4 ++ [.int (sideI p)]))
  revert TA6 K6
  generalize upd H5 (L 4) (.lst (S 4 ++ [.int (sideI p)])) = H6
  intro TA6 K6
  have m6 : H6 (L 8) = some (.lst (S 8)) := TA6.ls 8 (by decide)
  -- lows
  have l6 : H6 (L 5) = some (.lst (S 5)) := TA6.ls 5 (by decide)
  refine ⟨_, rfl, a, C, dx, _, _, rfl, TA6.ob, TC.cl, TC.n5, stF_5 _ _, .inl ⟨rfl, _, SqL.of l6⟩, _, rfl, a, C, dx, _, _, rfl, TA6.ob, TC.cl, TC.n8, stF_8 _ _, L 8, _, rfl, .inl (SqL.of m6), L 5, _, _, rfl, rfl, l6, sz 5 (by decide), ?_⟩
  have TA7 := TA6.put (i := 5) (by decide) (S 5 ++ [.int ((S 8).length : Nat)])
  have K7 := K6.put (i := 5) (by decide) (.lst (S 5 ++ [.int ((S 8).length : Nat)]))
  revert TA7 K7
  generalize upd H6 (L 5) (.lst (S 5 ++ [.int ((S 8).length : Nat)])) = H7
  intro TA7 K7
  -- kids
  have l7 : H7 (L 2) = some (.lst (S 2)) := TA7.ls 2 (by decide)
  refine ⟨_, rfl, a, C, dx, _, _, rfl, TA7.ob, TC.cl, TC.n2, stF_2 _ _, .inl ⟨rfl, _, SqL.of l7⟩, (by show 0 ≤ sizeLine; decide), fun t2 ht2 => ?_⟩
  have s7 : Same H7 (upd H7 t2 (.tup [])) := same_new ht2
  have TA7' := TA7.same s7
  have K7' := K7.same s7
  have l7' : (upd H7 t2 (.tup [])) (L 2) = some (.lst (S 2)) := s7 _ _ l7
  refine ⟨L 2, _, _, rfl, rfl, l7', sz 2 (by decide), ?_⟩
  have TA8 := TA7'.put (i := 2) (by decide) (S 2 ++ [.ref t2])
  have K8 := K7'.put (i := 2) (by decide) (.lst (S 2 ++ [.ref t2]))
  revert TA8 K8
  generalize upd (upd H7 t2 (.tup [])) (L 2) (.lst (S 2 ++ [.ref t2])) = H8
  intro TA8 K8
  -- highs
  have l8 : H8 (L 6) = some (.lst (S 6)) := TA8.ls 6 (by decide)
  refine ⟨_, rfl, a, C, dx, _, _, rfl, TA8.ob, TC.cl, TC.n6, stF_6 _ _, .inl ⟨rfl, _, SqL.of l8⟩, L 6, _, _, rfl, rfl, l8, sz 6 (by decide), ?_⟩
  have TA9 := TA8.put (i := 6) (by decide) (S 6 ++ [.int 0])
  have K9 := K8.put (i := 6) (by decide) (.lst (S 6 ++ [.int 0]))
  revert TA9 K9
  generalize upd H8 (L 6) (.lst (S 6 ++ [.int 0])) = H9
  intro TA9 K9
  -- ends
  have l9 : H9 (L 7) = some (.lst (S 7)) := TA9.ls 7 (by decide)
  refine ⟨_, rfl, a, C, dx, _, _, rfl, TA9.ob, TC.cl, TC.n7, stF_7 _ _, .inl ⟨rfl, _, SqL.of l9⟩, L 7, _, _, rfl, rfl, l9, sz 7 (by decide), ?_⟩
  have TA10 := TA9.put (i := 7) (by decide) (S 7 ++ [.int 0])
  have K10 := K9.put (i := 7) (by decide) (.lst (S 7 ++ [.int 0]))
  revert TA10 K10
  generalize upd H9 (L 7) (.lst (S 7 ++ [.int 0])) = H10
  intro TA10 K10
  -- if not bough
  have hb10 : SqT K H10 b' bs := kt_sqt (TA2.keepT K10) hb2
  refine ⟨a, dx, b', bs, fv, L, _, tp, _, rfl, rfl, rfl, rfl, TA10, hb10, sz 8 (by decide), sz 9 (by decide), fun H11 TA11 K11' => ?_⟩
  have hul : bs.length = u.len := hS.len
  have ex : ∃ S11 : Nat → List V, TreeAt C H11 a dx fv L S11 ∧ S11 0 = S 0 ++ [.ref b'] ∧ S11 1 = S 1 ++ [parV D p] ∧ (∃ o, S11 2 = S 2 ++ [o]) ∧ S11 3 = S 3 ++ [.int (p.length : Nat)] ∧ S11 4 = S 4 ++ [.int (sideI p)] ∧ S11 5 = S 5 ++ [.int (D.low p : Nat)] ∧
      (∃ o, S11 6 = S 6 ++ [o]) ∧ (∃ o, S11 7 = S 7 ++ [o]) ∧ S11 8 = (if bs = [] then S 8 ++ [.int (D.idx p : Nat)] else S 8) ∧ S11 9 = (if bs = [] then S 9 ++ [.ref tp] else S 9) := by
    refine ⟨_, TA11, ?_⟩
    rw [pth_last, epl, hst 8 (by decide)]
    by_cases e : bs = []
    · simp only [if_pos e]
      exact ⟨rfl, rfl, ⟨_, rfl⟩, rfl, rfl, rfl, ⟨_, rfl⟩, ⟨_, rfl⟩, rfl, rfl⟩
    · simp only [if_neg e]
      exact ⟨rfl, rfl, ⟨_, rfl⟩, rfl, rfl, rfl, ⟨_, rfl⟩, ⟨_, rfl⟩, rfl, rfl⟩
  clear TA11
  obtain ⟨S11, TA11, q0, q1, ⟨o2, q2⟩, q3, q4, q5, ⟨o6, q6⟩, ⟨o7, q7⟩, q8, q9⟩ := ex
  have K11 : Keep L H2 H11 := K10.trans K11'
  have hb11 : SqT K H11 b' bs := kt_sqt (TA2.keepT K11) hb2
  have hS11 : ShF K H11 bs u := hS2.keep (TA2.keepT K11)
  have htp11 : SqT K H11 tp (pth D p (p.length + 1)) := kt_sqt (TA2.keepT K11) htp
  have KH : Keep L H H11 := fun y o h n => K11 y o (s2 y o h) n
  clear TA3 TA4 TA5 TA6 TA7 TA7' TA8 TA9 TA10 K3 K4 K5 K6 K7 K7' K8 K9 K10 K11'
  have lS : ∀ k, k < 8 → (S11 k).length = D.idx p + 1 := by
    have e : ∀ k, k < 8 → (S k).length = D.idx p := fun k hk => by
      rw [hst k (by omega)]
      unfold start
      rw [if_pos hk]
    intro k hk
    match k, hk with
    | 0, h => rw [q0, List.length_append, e 0 h]; rfl
    | 1, h => rw [q1, List.length_append, e 1 h]; rfl
    | 2, h => rw [q2, List.length_append, e 2 h]; rfl
    | 3, h => rw [q3, List.length_append, e 3 h]; rfl
    | 4, h => rw [q4, List.length_append, e 4 h]; rfl
    | 5, h => rw [q5, List.length_append, e 5 h]; rfl
    | 6, h => rw [q6, List.length_append, e 6 h]; rfl
    | 7, h => rw [q7, List.length_append, e 7 h]; rfl
  have lS8 : ∀ k, k = 8 ∨ k = 9 → (S11 k).length = D.low p + (if bs = [] then 1 else 0) := by
    rintro k (rfl | rfl)
    · rw [q8]
      have e := hst 8 (by decide)
      unfold start at e
      rw [if_neg (by decide)] at e
      split
      · rw [List.length_append, e]; rfl
      · exact e
    · rw [q9]
      have e := hst 9 (by decide)
      unfold start at e
      rw [if_neg (by decide)] at e
      split
      · rw [List.length_append, e]; rfl
      · exact e
  -- kids = []; for place, kid in enumerate(bough)
  refine ⟨(by show 0 ≤ sizeLine; decide), fun lk hlk => ?_⟩
  have s12 : Same H11 (upd H11 lk (.lst [])) := same_new hlk
  have lkL : ∀ i, i < 10 → lk ≠ L i := fun i hi e => by
    rw [e, TA11.ls i hi] at hlk
    exact nomatch hlk
  have lka : lk ≠ a := fun e => by
    rw [e, TA11.ob] at hlk
    exact nomatch hlk
  refine ⟨_, rfl, b', bs, rfl, same_sqt s12 hb11, for_it walk_enumT (fun i σ H' => ∃ (S' : Nat → List V) (o7 o8 : Option V), σ = [some (.ref a), some (.ref b'), some (.ref ab), some (.int (sideI p)), some (.int (D.idx p : Nat)), some (.ref tp), some (.ref lk), o7, o8] ∧
    TreeAt C H' a dx fv L S' ∧ Keep L H11 H' ∧ H' lk = some (.lst ((List.range i).map fun j => V.int (D.idx (p ++ [j]) : Nat))) ∧ Grown K H' D (fun k => (rowsN (aof k) u i).map (p ++ ·)) S11 S')
    ⟨S11, none, none, rfl, TA11.same s12, fun y o h _ => s12 _ _ h, upd_same, fun k _ => ⟨[], (List.append_nil _).symm, .nil⟩⟩ (fun i σ H' _ ⟨_, _, _, _, _, k, _⟩ => kt_sqt (TA11.keepT k) hb11) ?_ ?_⟩
  · rintro i y σ H' H'' hi ⟨S', o7, o8, rfl, TA', K', hlk', G'⟩ hY
    obtain ⟨T0, x', y', rfl, hT0, rfl, hx', hy'⟩ := hY
    obtain rfl : V.int (i : Nat) = x' := Option.some.inj hx'
    obtain ⟨kd, hkd, bk, ks, rfl, hsk, hFk⟩ := hS11.at i y' hy'
    have sT : Same H' (upd H' T0 (.tup [.int (i : Nat), .ref bk])) := same_new hT0
    have hiu : i < u.len := by omega
    have eidx := idx_rows u i hiu
    have elow := low_rows hsub i hiu
    obtain ⟨er1, er2⟩ := hrec [i]
    have hsub' : D.sub (p ++ [i]) = some kd := by
      rw [er1, sub_one]
      exact hkd
    have hbs : bs ≠ [] := fun e => by
      rw [e] at hi
      exact absurd hi (Nat.not_lt_zero _)
    have ln : ∀ k, k < 10 → (S' k).length = start D (p ++ [i]) k := by
      intro k hk
      obtain ⟨R, eR, pR⟩ := G' k hk
      have e1 := Paired.len pR
      rw [List.length_map] at e1
      rw [eR, List.length_append, e1]
      unfold start
      by_cases h8 : k < 8
      · rw [lS k h8, if_pos h8, er2, eidx]
        unfold aof
        rw [if_pos h8]
        omega
      · rw [lS8 k (by omega), if_neg h8, if_neg hbs, elow]
        unfold aof
        rw [if_neg h8]
        omega
    have l0 : (S' 0).length = D.idx (p ++ [i]) := ln 0 (by decide)
    have TAT := TA'.same sT
    -- kids.append(len(self.boughs))
    have hlkT := sT _ _ hlk'
    have hiN : i < D.nodes := by
      have := len_lt_nodes u
      omega
    refine ⟨T0, _, rfl, SqT.of upd_same, rfl, _, _, rfl, _, _, rfl, rfl, ?_⟩
    refine ⟨_, rfl, .inl ⟨rfl, _, SqL.of hlkT⟩, _, rfl, a, C, dx, _, _, rfl, TAT.ob, TC.cl, TC.n0, stF_0 _ _, L 0, _, rfl, .inl (SqL.of (TAT.ls 0 (by decide))), lk, _, _, rfl, rfl, hlkT, small1000 (by rw [List.length_map, List.length_range]; omega), ?_⟩
    rw [l0]
    have eks : ((List.range i).map fun j => V.int (D.idx (p ++ [j]) : Nat)) ++ [V.int (D.idx (p ++ [i]) : Nat)] = (List.range (i + 1)).map fun j => V.int (D.idx (p ++ [j]) : Nat) := by
      rw [List.range_succ, List.map_append, List.map_singleton]
    rw [eks]
    have TAU : TreeAt C (upd (upd H' T0 (.tup [.int (i : Nat), .ref bk])) lk (.lst ((List.range (i + 1)).map fun j => V.int (D.idx (p ++ [j]) : Nat)))) a dx fv L S' :=
      ⟨by rw [upd_ne (Ne.symm lka)]; exact TAT.ob, fun j hj => by rw [upd_ne (Ne.symm (lkL j hj))]; exact TAT.ls j hj, TAT.inj⟩
    have KU : Keep L H11 (upd (upd H' T0 (.tup [.int (i : Nat), .ref bk])) lk (.lst ((List.range (i + 1)).map fun j => V.int (D.idx (p ++ [j]) : Nat)))) := fun y o h n => by
      rw [upd_ne (ne_of_none h hlk)]
      exact sT _ _ (K' y o h n)
    have lkU : (upd (upd H' T0 (.tup [.int (i : Nat), .ref bk])) lk (.lst ((List.range (i + 1)).map fun j => V.int (D.idx (p ++ [j]) : Nat)))) lk = _ := upd_same
    have tU : KeepT H' (upd (upd H' T0 (.tup [.int (i : Nat), .ref bk])) lk (.lst ((List.range (i + 1)).map fun j => V.int (D.idx (p ++ [j]) : Nat)))) := fun y xs =>
      ⟨fun h => by rw [upd_ne (fun e => by rw [e, hlk'] at h; exact HO.noConfusion (Option.some.inj h))]; exact sT _ _ h, fun o h => by rw [upd_ne (fun e => by rw [e, hlk'] at h; exact HO.noConfusion (Option.some.inj h))]; exact sT _ _ h⟩
    revert TAU KU lkU tU
    generalize upd (upd H' T0 (.tup [.int (i : Nat), .ref bk])) lk (.lst ((List.range (i + 1)).map fun j => V.int (D.idx (p ++ [j]) : Nat))) = HU
    intro TAU KU lkU tU
    -- self._grow(kid, path, place)
    have kU := TA11.keepT KU
    refine ⟨_, rfl, a, dx, _, rfl, TAU.ob, stF_grow _ _, _, rfl, _, rfl, _, rfl, a, bk, tp, dx, ks, D, kd, p ++ [i], fv, L, S', congrArg (fun z => [V.ref a, V.ref bk, V.ref tp, V.int z]) (sideI_snoc p i).symm, TAU, kt_sqt kU hsk, hFk.keep kU, by rw [pth_snoc]; exact kt_sqt kU htp11, hsub', hD, ?_, ?_, ln, fun H3 S3 TA3 K3 G3 => ?_⟩
    · have := ht_kid u i kd hkd
      omega
    · rw [List.length_append, List.length_singleton]
      omega
    refine ⟨S3, _, _, rfl, TA3, KU.trans K3, K3 _ _ lkU lkL, fun k hk => ?_⟩
    obtain ⟨R1, eR1, pR1⟩ := G' k hk
    obtain ⟨R2, eR2, pR2⟩ := G3 k hk
    refine ⟨R1 ++ R2, by rw [eR2, eR1, List.append_assoc], ?_⟩
    show Paired (Cell K H3 D k) (R1 ++ R2) ((rowsN (aof k) u (i + 1)).map fun x => p ++ x)
    rw [rowsN_succ _ hkd]
    exact Paired.app (Paired.mono (fun v q c => Cell.keep (tU.trans (TAU.keepT K3)) k v q c) pR1) pR2
  · rintro σ H' ⟨S', o7, o8, rfl, TA', K', hlk', G'⟩
    rw [hul] at hlk' G'
    have kt' := TA11.keepT K'
    have hn8 : ∀ k, k < 8 → (S' k).length = D.idx p + u.nodes := by
      intro k hk
      obtain ⟨R, eR, pR⟩ := G' k (by omega)
      have e1 := Paired.len pR
      rw [List.length_map] at e1
      have e2 := ad_len u
      rw [ad_rows, List.length_cons] at e2
      rw [eR, List.length_append, e1, lS k hk]
      unfold aof
      rw [if_pos hk]
      omega
    have hq8 : (S' 8).length = D.low p + u.lf := by
      obtain ⟨R, eR, pR⟩ := G' 8 (by decide)
      have e1 := Paired.len pR
      rw [List.length_map] at e1
      rw [eR, List.length_append, e1, lS8 8 (.inl rfl), show aof 8 = lv from rfl]
      by_cases e : bs = []
      · rw [if_pos e]
        have e3 : u.len = 0 := by rw [← hul, e]; rfl
        rw [e3]
        unfold lf
        rw [(lv_leaf e3).1]
        rfl
      · rw [if_neg e]
        have e3 : u.len ≠ 0 := fun z => e (List.eq_nil_of_length_eq_zero (by omega))
        unfold lf
        rw [← lv_rows u e3]
        rfl
    have jn : D.idx p < D.idx p + u.nodes := by omega
    -- self.kids[node] = tuple(kids)
    refine ⟨_, rfl, lk, _, rfl, .inl ⟨SqL.of hlk', fun t3 ht3 => ?_⟩⟩
    have sA : Same H' (upd H' t3 (.tup ((List.range u.len).map fun j => V.int (D.idx (p ++ [j]) : Nat)))) := same_new ht3
    have TAA := TA'.same sA
    have mA := TAA.ls 2 (by decide)
    refine ⟨_, rfl, a, C, dx, _, _, rfl, TAA.ob, TC.cl, TC.n2, stF_2 _ _, _, rfl, L 2, _, _, D.idx p, rfl, rfl, mA, ixN_nat (by rw [hn8 2 (by decide)]; exact jn), ?_⟩
    have TAB := TAA.put (i := 2) (by decide) ((S' 2).set (D.idx p) (.ref t3))
    have KB := ((Keep.refl L H').same sA).put (i := 2) (by decide) (.lst ((S' 2).set (D.idx p) (.ref t3)))
    have hB3 : (upd (upd H' t3 (.tup ((List.range u.len).map fun j => V.int (D.idx (p ++ [j]) : Nat)))) (L 2) (.lst ((S' 2).set (D.idx p) (.ref t3)))) t3 = some (.tup (kidV D p u)) := by
      rw [upd_ne, upd_same]
      · rfl
      · intro e
        rw [e, TA'.ls 2 (by decide)] at ht3
        exact nomatch ht3
    revert TAB KB hB3
    generalize upd (upd H' t3 (.tup ((List.range u.len).map fun j => V.int (D.idx (p ++ [j]) : Nat)))) (L 2) (.lst ((S' 2).set (D.idx p) (.ref t3))) = HB
    intro TAB KB hB3
    -- self.highs[node] = len(self.leaves)
    have mB : HB (L 8) = some (.lst (S' 8)) := TAB.ls 8 (by decide)
    have mB6 : HB (L 6) = some (.lst (S' 6)) := TAB.ls 6 (by decide)
    refine ⟨_, rfl, a, C, dx, _, _, rfl, TAB.ob, TC.cl, TC.n8, stF_8 _ _, L 8, _, rfl, .inl (SqL.of mB), _, rfl, a, C, dx, _, _, rfl, TAB.ob, TC.cl, TC.n6, stF_6 _ _, _, rfl, L 6, _, _, D.idx p, rfl, rfl, mB6, ixN_nat (by rw [hn8 6 (by decide)]; exact jn), ?_⟩
    rw [hq8]
    have TAC := TAB.put (i := 6) (by decide) ((S' 6).set (D.idx p) (.int (D.low p + u.lf : Nat)))
    have KC := KB.put (i := 6) (by decide) (.lst ((S' 6).set (D.idx p) (.int (D.low p + u.lf : Nat))))
    have hC3 := (TAB.keepT ((Keep.refl L HB).put (i := 6) (by decide) (.lst ((S' 6).set (D.idx p) (.int (D.low p + u.lf : Nat)))))  t3 _).1 hB3
    revert TAC KC hC3
    generalize upd HB (L 6) (.lst ((S' 6).set (D.idx p) (.int (D.low p + u.lf : Nat)))) = HC
    intro TAC KC hC3
    -- self.ends[node] = len(self.boughs)
    have mC : HC (L 0) = some (.lst (S' 0)) := TAC.ls 0 (by decide)
    have mC7 : HC (L 7) = some (.lst (S' 7)) := TAC.ls 7 (by decide)
    refine ⟨_, rfl, a, C, dx, _, _, rfl, TAC.ob, TC.cl, TC.n0, stF_0 _ _, L 0, _, rfl, .inl (SqL.of mC), _, rfl, a, C, dx, _, _, rfl, TAC.ob, TC.cl, TC.n7, stF_7 _ _, _, rfl, L 7, _, _, D.idx p, rfl, rfl, mC7, ixN_nat (by rw [hn8 7 (by decide)]; exact jn), ?_⟩
    rw [hn8 0 (by decide)]
    have TAD := TAC.put (i := 7) (by decide) ((S' 7).set (D.idx p) (.int (D.idx p + u.nodes : Nat)))
    have KD := KC.put (i := 7) (by decide) (.lst ((S' 7).set (D.idx p) (.int (D.idx p + u.nodes : Nat))))
    have hD3 := (TAC.keepT ((Keep.refl L HC).put (i := 7) (by decide) (.lst ((S' 7).set (D.idx p) (.int (D.idx p + u.nodes : Nat)))))  t3 _).1 hC3
    revert TAD KD hD3
    generalize upd HC (L 7) (.lst ((S' 7).set (D.idx p) (.int (D.idx p + u.nodes : Nat)))) = HD
    intro TAD KD hD3
    refine q HD _ TAD ((KH.trans K').trans KD) ?_
    have ktD := TA'.keepT KD
    have cells : ∀ k, k < 8 → ∀ R, Paired (Cell K H' D k) R ((rowsN (aof k) u u.len).map (p ++ ·)) → ∀ v, Cell K HD D k v p → Paired (Cell K HD D k) (v :: R) ((aof k u).map (p ++ ·)) := by
      intro k hk R pR v hv
      have e : aof k u = [] :: rowsN (aof k) u u.len := by
        unfold aof
        rw [if_pos hk]
        exact ad_rows u
      rw [e, List.map_cons, List.append_nil]
      exact .cons hv (Paired.mono (fun v q c => Cell.keep ktD k v q c) pR)
    have cellsL : ∀ k, k = 8 ∨ k = 9 → ∀ R, Paired (Cell K H' D k) R ((rowsN (aof k) u u.len).map (p ++ ·)) → ∀ v, Cell K HD D k v p → ∃ R', (if bs = [] then S k ++ [v] else S k) ++ R = S k ++ R' ∧ Paired (Cell K HD D k) R' ((aof k u).map (p ++ ·)) := by
      intro k hk R pR v hv
      have ea : aof k = lv := by
        unfold aof
        rw [if_neg (by omega)]
      rw [ea] at pR ⊢
      by_cases e : bs = []
      · have e3 : u.len = 0 := by rw [← hul, e]; rfl
        rw [e3] at pR
        have pR' : Paired (Cell K H' D k) R [] := pR
        cases pR'
        refine ⟨[v], by rw [if_pos e, List.append_nil], ?_⟩
        rw [(lv_leaf e3).1]
        show Paired _ [v] [p ++ []]
        rw [List.append_nil]
        exact .cons hv .nil
      · have e3 : u.len ≠ 0 := fun z => e (List.eq_nil_of_length_eq_zero (by omega))
        refine ⟨R, by rw [if_neg e], ?_⟩
        rw [lv_rows u e3]
        exact Paired.mono (fun v q c => Cell.keep ktD k v q c) pR
    have hl : ∀ k, k < 8 → (S k).length = D.idx p := fun k hk => by
      rw [hst k (by omega)]
      unfold start
      rw [if_pos hk]
    intro k hk
    obtain ⟨R, eR, pR⟩ := G' k hk
    have htpD : SqT K HD tp (pth D p (p.length + 1)) := kt_sqt (kt'.trans ktD) htp11
    have hbD : SqT K HD b' bs := kt_sqt (kt'.trans ktD) hb11
    have hFD : ShF K HD bs u := hS11.keep (kt'.trans ktD)
    match k, hk, eR, pR with
    | 0, _, eR, pR => exact ⟨.ref b' :: R, by show S' 0 = _; rw [eR, q0]; simp, cells 0 (by decide) R pR _ ⟨u, hsub, b', bs, rfl, hbD, hFD⟩⟩
    | 1, _, eR, pR => exact ⟨parV D p :: R, by show S' 1 = _; rw [eR, q1]; simp, cells 1 (by decide) R pR _ rfl⟩
    | 2, _, eR, pR => exact ⟨.ref t3 :: R, by show (S' 2).set (D.idx p) (.ref t3) = _; rw [eR, q2]; exact set_mid _ _ _ _ _ (hl 2 (by decide)), cells 2 (by decide) R pR _ ⟨u, t3, hsub, rfl, SqT.of hD3⟩⟩
    | 3, _, eR, pR => exact ⟨.int (p.length : Nat) :: R, by show S' 3 = _; rw [eR, q3]; simp, cells 3 (by decide) R pR _ rfl⟩
    | 4, _, eR, pR => exact ⟨.int (sideI p) :: R, by show S' 4 = _; rw [eR, q4]; simp, cells 4 (by decide) R pR _ rfl⟩
    | 5, _, eR, pR => exact ⟨.int (D.low p : Nat) :: R, by show S' 5 = _; rw [eR, q5]; simp, cells 5 (by decide) R pR _ rfl⟩
    | 6, _, eR, pR => exact ⟨.int (D.low p + u.lf : Nat) :: R, by show (S' 6).set (D.idx p) _ = _; rw [eR, q6]; exact set_mid _ _ _ _ _ (hl 6 (by decide)), cells 6 (by decide) R pR _ ⟨u, hsub, rfl⟩⟩
    | 7, _, eR, pR => exact ⟨.int (D.idx p + u.nodes : Nat) :: R, by show (S' 7).set (D.idx p) _ = _; rw [eR, q7]; exact set_mid _ _ _ _ _ (hl 7 (by decide)), cells 7 (by decide) R pR _ ⟨u, hsub, rfl⟩⟩
    | 8, _, eR, pR =>
      obtain ⟨R', e1, e2⟩ := cellsL 8 (.inl rfl) R pR (.int (D.idx p : Nat)) rfl
      exact ⟨R', by show S' 8 = _; rw [eR, q8]; exact e1, e2⟩
    | 9, _, eR, pR =>
      obtain ⟨R', e1, e2⟩ := cellsL 9 (.inr rfl) R pR (.ref tp) ⟨tp, rfl, htpD⟩
      exact ⟨R', by show S' 9 = _; rw [eR, q9]; exact e1, e2⟩
end
end K19

set_option Elab.async false
set_option linter.all false
set_option maxRecDepth 100000
set_option maxHeartbeats 4000000
namespace K19
open PySem PySem.Spec PyProof.Rows L2 Dt
theorem DtF.good {K : PySem.W.Frag} {H : Hp} {vs : List V} {t : Dt} (h : DtF K H vs t) : t.deep 1 = true → ShF K H vs t := by
  induction h with
  | nil => exact fun _ => .nil
  | bad h n q ih =>
    intro g
    exact nomatch (show (false : Bool) = true by simpa [Dt.deep, Dt.here, Dt.isx] using g)
  | @tup a vs ws k r h p q ih1 ih2 =>
    intro g
    have g' : (here 1 k && deep 1 k && deep 1 r) = true := g
    simp only [Bool.and_eq_true] at g'
    exact .cons h (ih1 g'.1.2) (ih2 g'.2)
theorem DtV.good {K : PySem.W.Frag} {H : Hp} {v : V} {t : Dt} (h : DtV K H v t) (g : t.good 1 = true) : ShV K H v t := by
  rcases h with ⟨rfl, _⟩ | ⟨a, vs, h1, h2, h3⟩
  · exact nomatch (show (false : Bool) = true by simpa [Dt.good, Dt.here, Dt.isx] using g)
  · unfold Dt.good at g
    rw [Bool.and_eq_true] at g
    exact ⟨a, vs, h1, h2, h3.good g.2⟩
theorem getD_at (l : List Addr) (i : Nat) (h : i < l.length) : l.getD i 0 = l[i] := by
  simp [List.getElem?_eq_getElem h]
/-- the lists of a whole tree -/
def Full (K : PySem.W.Frag) (H : Hp) (T : Dt) (S : Nat → List V) : Prop := ∀ i, i < 10 → Paired (Cell K H T i) (S i) (aof i T)
structure InitAt (C : Addr) (H0 H : Hp) (a dx : Addr) (fs : List (Str × V)) (ls : List Addr) : Prop where
  ob : H a = some (.ins C dx fs)
  em : ∀ l ∈ ls, H l = some (.lst [])
  nd : ls.Nodup
  kp : ∀ y o, H0 y = some o → y ≠ a → H y = some o
  fr : ∀ l ∈ ls, H0 l = none
theorem InitAt.step {C : Addr} {H0 H : Hp} {a dx l : Addr} {fs fs' : List (Str × V)} {ls : List Addr} (h : InitAt C H0 H a dx fs ls) (hl : H l = none) : (upd H l (.lst [])) a = some (.ins C dx fs) ∧ InitAt C H0 (upd (upd H l (.lst [])) a (.ins C dx fs')) a dx fs' (ls ++ [l]) := by
  have ela : l ≠ a := fun e => by
    rw [e, h.ob] at hl
    exact nomatch hl
  have hnl : ∀ m ∈ ls, m ≠ l := fun m hm e => by
    have := h.em m hm
    rw [e, hl] at this
    exact nomatch this
  refine ⟨by rw [upd_ne (Ne.symm ela)]; exact h.ob, upd_same, fun m hm => ?_, ?_, fun y o e hy => ?_, fun m hm => ?_⟩
  · rcases List.mem_append.mp hm with hm | hm
    · rw [upd_ne, upd_ne (hnl m hm)]
      · exact h.em m hm
      · intro e
        have := h.em m hm
        rw [e, h.ob] at this
        exact HO.noConfusion (Option.some.inj this)
    · obtain rfl : m = l := by simpa using hm
      rw [upd_ne ela, upd_same]
  · refine List.nodup_append.mpr ⟨h.nd, by simp, fun x hx y hy => ?_⟩
    obtain rfl : y = l := by simpa using hy
    exact hnl x hx
  · rw [upd_ne hy, upd_ne (ne_of_none (h.kp y o e hy) hl)]
    exact h.kp y o e hy
  · rcases List.mem_append.mp hm with hm | hm
    · exact h.fr m hm
    · obtain rfl : m = l := by simpa using hm
      cases e : H0 m with
      | none => rfl
      | some o =>
        have := h.kp m o e ela
        rw [hl] at this
        exact nomatch this
def spInit (K : PySem.W.Frag) (C U : Addr) (n : Nat) : Sp := fun vs H Q E => ∃ (a dx : Addr) (v : V) (t : Dt), vs = [.ref a, v] ∧ H a = some (.ins C dx []) ∧ DtV K H v t ∧ t.size ≤ 100000 ∧
  (t.good 1 = true → t.ht < n ∧ t.nodes ≤ 1000 ∧ ∀ H' L S, TreeAt C H' a dx v L S → (∀ y o, H y = some o → y ≠ a → H' y = some o) → Full K H' t S → (∀ i, i < 10 → H (L i) = none) → Q .non H') ∧
  (t.good 1 = false → ∀ H' d, Same H H' → H' d = none → E (.ref U) (some d) (upd H' d (xdO "form" (-1))))
section
variable {P : Program} {w : World} {K : PySem.W.Frag} {mg : Str → Option Value} {base : Heap}
theorem ok_init {C U f fG : Addr} {fd fdG : FuncData} (F : Fun K "__init__" "ShapeTree.__init__" s_ShapeTree_init f fd) (bG : Binds K fdG ["self", "bough", "above", "side"] []) (G : FnOk P w K mg base CX0 20 fG fdG ["self", "bough", "above", "side"] (spGrow K C 20))
    (TC : TCl K mg C fG) (GN : CalX P w K mg base (L2.CX P w) 4 "need_shape" ["form", "word"] (spNeedShape K U)) : FnOk P w K mg base (L2.CX P w) 21 f fd ["self", "form"] (spInit K C U 20) := by
  refine F.okX sc_ShapeTree_init (fun vs H Q E h => ?_) (fun cdv A outer s H vs Q E hr h => ?_)
  · obtain ⟨a, dx, v, t, rfl, _⟩ := h
    rfl
  obtain ⟨a, dx, v, t, rfl, ho, hv, hz, q1, q2⟩ := h
  refine ⟨_, pss_cons (ps_expr (pe_cx GN hr (by decide) rfl (passes_call (takes_of rfl rfl rfl rfl) (fun _ _ _ _ h => h)) (pa_cons (pv 1) (pa_cons pe_str pa_nil))))
    (pss_cons (ps_fld (pv 0) (pv 1) rfl)
    (pss_cons (ps_fld (pv 0) (pe_lst pa_nil) rfl)
    (pss_cons (ps_fld (pv 0) (pe_lst pa_nil) rfl)
    (pss_cons (ps_fld (pv 0) (pe_lst pa_nil) rfl)
    (pss_cons (ps_fld (pv 0) (pe_lst pa_nil) rfl)
    (pss_cons (ps_fld (pv 0) (pe_lst pa_nil) rfl)
    (pss_cons (ps_fld (pv 0) (pe_lst pa_nil) rfl)
    (pss_cons (ps_fld (pv 0) (pe_lst pa_nil) rfl)
    (pss_cons (ps_fld (pv 0) (pe_lst pa_nil) rfl)
    (pss_cons (ps_fld (pv 0) (pe_lst pa_nil) rfl)
    (pss_cons (ps_fld (pv 0) (pe_lst pa_nil) rfl)
    (pss_one (ps_expr (pe_meth (pv 0) TC.cl TC.mG G hr bG .nil pass0 (pa_cons (pv 1) (pa_cons (pe_tup pa_nil) (pa_cons (pe_un un_neg pe_int) pa_nil))))))))))))))))), ?_⟩
  refine ⟨_, rfl, v, t, "form", rfl, hv, hz, fun g H' sm => ?_, fun g H' d sm hd => q2 g H' d sm hd⟩
  obtain ⟨q1a, q1b, q1c⟩ := q1 g
  have ho' := sm _ _ ho
  refine ⟨_, rfl, _, rfl, a, C, dx, [], rfl, ho', TC.cl, TC.nF, (by show 0 < 1000; decide), ?_⟩
  have I0 : InitAt C H (upd H' a (.ins C dx (putF "form" v []))) a dx [("form", v)] [] := ⟨upd_same, (fun _ h => nomatch h), List.nodup_nil, fun y o e hy => by rw [upd_ne hy]; exact sm _ _ e, fun _ h => nomatch h⟩
  revert I0
  generalize upd H' a (.ins C dx (putF "form" v [])) = H0
  intro I0
  refine ⟨(by show 0 ≤ sizeLine; decide), fun l0 hl0 => ?_⟩
  obtain ⟨o0, I1⟩ := I0.step (fs' := (([("form", v)] : List (Str × V)) ++ ([("boughs", V.ref l0)] : List (Str × V)))) hl0
  refine ⟨_, rfl, a, C, dx, _, rfl, o0, TC.cl, TC.n0, (by show 1 < 1000; decide), ?_⟩
  rw [putF_new (f := ("boughs" : Str)) (v := V.ref l0) (fs := ([("form", v)] : List (Str × V))) (show ∀ g ∈ (["form"] : List Str), ¬ g = "boughs" by decide +kernel)]
  revert I1
  generalize upd (upd H0 l0 (.lst [])) a (.ins C dx (([("form", v)] : List (Str × V)) ++ ([("boughs", V.ref l0)] : List (Str × V)))) = H1
  intro I1
  refine ⟨(by show 0 ≤ sizeLine; decide), fun l1 hl1 => ?_⟩
  obtain ⟨o1, I2⟩ := I1.step (fs' := ((([("form", v)] : List (Str × V)) ++ ([("boughs", V.ref l0)] : List (Str × V))) ++ ([("parents", V.ref l1)] : List (Str × V)))) hl1
  refine ⟨_, rfl, a, C, dx, _, rfl, o1, TC.cl, TC.n1, (by show 2 < 1000; decide), ?_⟩
  rw [putF_new (f := ("parents" : Str)) (v := V.ref l1) (fs := (([("form", v)] : List (Str × V)) ++ ([("boughs", V.ref l0)] : List (Str × V)))) (show ∀ g ∈ (["form", "boughs"] : List Str), ¬ g = "parents" by decide +kernel)]
  revert I2
  generalize upd (upd H1 l1 (.lst [])) a (.ins C dx ((([("form", v)] : List (Str × V)) ++ ([("boughs", V.ref l0)] : List (Str × V))) ++ ([("parents", V.ref l1)] : List (Str × V)))) = H2
  intro I2
  refine ⟨(by show 0 ≤ sizeLine; decide), fun l2 hl2 => ?_⟩
  obtain ⟨o2, I3⟩ := I2.step (fs' := (((([("form", v)] : List (Str × V)) ++ ([("boughs", V.ref l0)] : List (Str × V))) ++ ([("parents", V.ref l1)] : List (Str × V))) ++ ([("kids", V.ref l2)] : List (Str × V)))) hl2
  refine ⟨_, rfl, a, C, dx, _, rfl, o2, TC.cl, TC.n2, (by show 3 < 1000; decide), ?_⟩
  rw [putF_new (f := ("kids" : Str)) (v := V.ref l2) (fs := ((([("form", v)] : List (Str × V)) ++ ([("boughs", V.ref l0)] : List (Str × V))) ++ ([("parents", V.ref l1)] : List (Str × V)))) (show ∀ g ∈ (["form", "boughs", "parents"] : List Str), ¬ g = "kids" by decide +kernel)]
  revert I3
  generalize upd (upd H2 l2 (.lst [])) a (.ins C dx (((([("form", v)] : List (Str × V)) ++ ([("boughs", V.ref l0)] : List (Str × V))) ++ ([("parents", V.ref l1)] : List (Str × V))) ++ ([("kids", V.ref l2)] : List (Str × V)))) = H3
  intro I3
  refine ⟨(by show 0 ≤ sizeLine; decide), fun l3 hl3 => ?_⟩
  obtain ⟨o3, I4⟩ := I3.step (fs' := ((((([("form", v)] : List (Str × V)) ++ ([("boughs", V.ref l0)] : List (Str × V))) ++ ([("parents", V.ref l1)] : List (Str × V))) ++ ([("kids", V.ref l2)] : List (Str × V))) ++ ([("depths", V.ref l3)] : List (Str × V)))) hl3
  refine ⟨_, rfl, a, C, dx, _, rfl, o3, TC.cl, TC.n3, (by show 4 < 1000; decide), ?_⟩
  rw [putF_new (f := ("depths" : Str)) (v := V.ref l3) (fs := (((([("form", v)] : List (Str × V)) ++ ([("boughs", V.ref l0)] : List (Str × V))) ++ ([("parents", V.ref l1)] : List (Str × V))) ++ ([("kids", V.ref l2)] : List (Str × V)))) (show ∀ g ∈ (["form", "boughs", "parents", "kids"] : List Str), ¬ g = "depths" by decide +kernel)]
  revert I4
  generalize upd (upd H3 l3 (.lst [])) a (.ins C dx ((((([("form", v)] : List (Str × V)) ++ ([("boughs", V.ref l0)] : List (Str × V))) ++ ([("parents", V.ref l1)] : List (Str × V))) ++ ([("kids", V.ref l2)] : List (Str × V))) ++ ([("depths", V.ref l3)] : List (Str × V)))) = H4
  intro I4
  refine ⟨(by show 0 ≤ sizeLine; decide), fun l4 hl4 => ?_⟩
  obtain ⟨o4, I5⟩ := I4.step (fs' := (((((([("form", v)] : List (Str × V)) ++ ([("boughs", V.ref l0)] : List (Str × V))) ++ ([("parents", V.ref l1)] : List (Str × V))) ++ ([("kids", V.ref l2)] : List (Str × V))) ++ ([("depths", V.ref l3)] : List (Str × V))) ++ ([("sides", V.ref l4)] : List (Str × V)))) hl4
  refine ⟨_, rfl, a, C, dx, _, rfl, o4, TC.cl, TC.n4, (by show 5 < 1000; decide), ?_⟩
  rw [putF_new (f := ("sides" : Str)) (v := V.ref l4) (fs := ((((([("form", v)] : List (Str × V)) ++ ([("boughs", V.ref l0)] : List (Str × V))) ++ ([("parents", V.ref l1)] : List (Str × V))) ++ ([("kids", V.ref l2)] : List (Str × V))) ++ ([("depths", V.ref l3)] : List (Str × V)))) (show ∀ g ∈ (["form", "boughs", "parents", "kids", "depths"] : List Str), ¬ g = "sides" by decide +kernel)]
  revert I5
  generalize upd (upd H4 l4 (.lst [])) a (.ins C dx (((((([("form", v)] : List (Str × V)) ++ ([("boughs", V.ref l0)] : List (Str × V))) ++ ([("parents", V.ref l1)] : List (Str × V))) ++ ([("kids", V.ref l2)] : List (Str × V))) ++ ([("depths", V.ref l3)] : List (Str × V))) ++ ([("sides", V.ref l4)] : List (Str × V)))) = H5
  intro I5
  refine ⟨(by show 0 ≤ sizeLine; decide), fun l5 hl5 => ?_⟩
  obtain ⟨o5, I6⟩ := I5.step (fs' := ((((((([("form", v)] : List (Str × V)) ++ ([("boughs", V.ref l0)] : List (Str × V))) ++ ([("parents", V.ref l1)] : List (Str × V))) ++ ([("kids", V.ref l2)] : List (Str × V))) ++ ([("depths", V.ref l3)] : List (Str × V))) ++ ([("sides", V.ref l4)] : List (Str × V))) ++ ([("lows", V.ref l5)] : List (Str × V)))) hl5
  refine ⟨_, rfl, a, C, dx, _, rfl, o5, TC.cl, TC.n5, (by show 6 < 1000; decide), ?_⟩
  rw [putF_new (f := ("lows" : Str)) (v := V.ref l5) (fs := (((((([("form", v)] : List (Str × V)) ++ ([("boughs", V.ref l0)] : List (Str × V))) ++ ([("parents", V.ref l1)] : List (Str × V))) ++ ([("kids", V.ref l2)] : List (Str × V))) ++ ([("depths", V.ref l3)] : List (Str × V))) ++ ([("sides", V.ref l4)] : List (Str × V)))) (show ∀ g ∈ (["form", "boughs", "parents", "kids", "depths", "sides"] : List Str), ¬ g = "lows" by decide +kernel)]
  revert I6
  generalize upd (upd H5 l5 (.lst [])) a (.ins C dx ((((((([("form", v)] : List (Str × V)) ++ ([("boughs", V.ref l0)] : List (Str × V))) ++ ([("parents", V.ref l1)] : List (Str × V))) ++ ([("kids", V.ref l2)] : List (Str × V))) ++ ([("depths", V.ref l3)] : List (Str × V))) ++ ([("sides", V.ref l4)] : List (Str × V))) ++ ([("lows", V.ref l5)] : List (Str × V)))) = H6
  intro I6
  refine ⟨(by show 0 ≤ sizeLine; decide), fun l6 hl6 => ?_⟩
  obtain ⟨o6, I7⟩ := I6.step (fs' := (((((((([("form", v)] : List (Str × V)) ++ ([("boughs", V.ref l0)] : List (Str × V))) ++ ([("parents", V.ref l1)] : List (Str × V))) ++ ([("kids", V.ref l2)] : List (Str × V))) ++ ([("depths", V.ref l3)] : List (Str × V))) ++ ([("sides", V.ref l4)] : List (Str × V))) ++ ([("lows", V.ref l5)] : List (Str × V))) ++ ([("highs", V.ref l6)] : List (Str × V)))) hl6
  refine ⟨_, rfl, a, C, dx, _, rfl, o6, TC.cl, TC.n6, (by show 7 < 1000; decide), ?_⟩
  rw [putF_new (f := ("highs" : Str)) (v := V.ref l6) (fs := ((((((([("form", v)] : List (Str × V)) ++ ([("boughs", V.ref l0)] : List (Str × V))) ++ ([("parents", V.ref l1)] : List (Str × V))) ++ ([("kids", V.ref l2)] : List (Str × V))) ++ ([("depths", V.ref l3)] : List (Str × V))) ++ ([("sides", V.ref l4)] : List (Str × V))) ++ ([("lows", V.ref l5)] : List (Str × V)))) (show ∀ g ∈ (["form", "boughs", "parents", "kids", "depths", "sides", "lows"] : List Str), ¬ g = "highs" by decide +kernel)]
  revert I7
  generalize upd (upd H6 l6 (.lst [])) a (.ins C dx (((((((([("form", v)] : List (Str × V)) ++ ([("boughs", V.ref l0)] : List (Str × V))) ++ ([("parents", V.ref l1)] : List (Str × V))) ++ ([("kids", V.ref l2)] : List (Str × V))) ++ ([("depths", V.ref l3)] : List (Str × V))) ++ ([("sides", V.ref l4)] : List (Str × V))) ++ ([("lows", V.ref l5)] : List (Str × V))) ++ ([("highs", V.ref l6)] : List (Str × V)))) = H7
  intro I7
  refine ⟨(by show 0 ≤ sizeLine; decide), fun l7 hl7 => ?_⟩
  obtain ⟨o7, I8⟩ := I7.step (fs' := ((((((((([("form", v)] : List (Str × V)) ++ ([("boughs", V.ref l0)] : List (Str × V))) ++ ([("parents", V.ref l1)] : List (Str × V))) ++ ([("kids", V.ref l2)] : List (Str × V))) ++ ([("depths", V.ref l3)] : List (Str × V))) ++ ([("sides", V.ref l4)] : List (Str × V))) ++ ([("lows", V.ref l5)] : List (Str × V))) ++ ([("highs", V.ref l6)] : List (Str × V))) ++ ([("ends", V.ref l7)] : List (Str × V)))) hl7
  refine ⟨_, rfl, a, C, dx, _, rfl, o7, TC.cl, TC.n7, (by show 8 < 1000; decide), ?_⟩
  rw [putF_new (f := ("ends" : Str)) (v := V.ref l7) (fs := (((((((([("form", v)] : List (Str × V)) ++ ([("boughs", V.ref l0)] : List (Str × V))) ++ ([("parents", V.ref l1)] : List (Str × V))) ++ ([("kids", V.ref l2)] : List (Str × V))) ++ ([("depths", V.ref l3)] : List (Str × V))) ++ ([("sides", V.ref l4)] : List (Str × V))) ++ ([("lows", V.ref l5)] : List (Str × V))) ++ ([("highs", V.ref l6)] : List (Str × V)))) (show ∀ g ∈ (["form", "boughs", "parents", "kids", "depths", "sides", "lows", "highs"] : List Str), ¬ g = "ends" by decide +kernel)]
  revert I8
  generalize upd (upd H7 l7 (.lst [])) a (.ins C dx ((((((((([("form", v)] : List (Str × V)) ++ ([("boughs", V.ref l0)] : List (Str × V))) ++ ([("parents", V.ref l1)] : List (Str × V))) ++ ([("kids", V.ref l2)] : List (Str × V))) ++ ([("depths", V.ref l3)] : List (Str × V))) ++ ([("sides", V.ref l4)] : List (Str × V))) ++ ([("lows", V.ref l5)] : List (Str × V))) ++ ([("highs", V.ref l6)] : List (Str × V))) ++ ([("ends", V.ref l7)] : List (Str × V)))) = H8
  intro I8
  refine ⟨(by show 0 ≤ sizeLine; decide), fun l8 hl8 => ?_⟩
  obtain ⟨o8, I9⟩ := I8.step (fs' := (((((((((([("form", v)] : List (Str × V)) ++ ([("boughs", V.ref l0)] : List (Str × V))) ++ ([("parents", V.ref l1)] : List (Str × V))) ++ ([("kids", V.ref l2)] : List (Str × V))) ++ ([("depths", V.ref l3)] : List (Str × V))) ++ ([("sides", V.ref l4)] : List (Str × V))) ++ ([("lows", V.ref l5)] : List (Str × V))) ++ ([("highs", V.ref l6)] : List (Str × V))) ++ ([("ends", V.ref l7)] : List (Str × V))) ++ ([("leaves", V.ref l8)] : List (Str × V)))) hl8
  refine ⟨_, rfl, a, C, dx, _, rfl, o8, TC.cl, TC.n8, (by show 9 < 1000; decide), ?_⟩
  rw [putF_new (f := ("leaves" : Str)) (v := V.ref l8) (fs := ((((((((([("form", v)] : List (Str × V)) ++ ([("boughs", V.ref l0)] : List (Str × V))) ++ ([("parents", V.ref l1)] : List (Str × V))) ++ ([("kids", V.ref l2)] : List (Str × V))) ++ ([("depths", V.ref l3)] : List (Str × V))) ++ ([("sides", V.ref l4)] : List (Str × V))) ++ ([("lows", V.ref l5)] : List (Str × V))) ++ ([("highs", V.ref l6)] : List (Str × V))) ++ ([("ends", V.ref l7)] : List (Str × V)))) (show ∀ g ∈ (["form", "boughs", "parents", "kids", "depths", "sides", "lows", "highs", "ends"] : List Str), ¬ g = "leaves" by decide +kernel)]
  revert I9
  generalize upd (upd H8 l8 (.lst [])) a (.ins C dx (((((((((([("form", v)] : List (Str × V)) ++ ([("boughs", V.ref l0)] : List (Str × V))) ++ ([("parents", V.ref l1)] : List (Str × V))) ++ ([("kids", V.ref l2)] : List (Str × V))) ++ ([("depths", V.ref l3)] : List (Str × V))) ++ ([("sides", V.ref l4)] : List (Str × V))) ++ ([("lows", V.ref l5)] : List (Str × V))) ++ ([("highs", V.ref l6)] : List (Str × V))) ++ ([("ends", V.ref l7)] : List (Str × V))) ++ ([("leaves", V.ref l8)] : List (Str × V)))) = H9
  intro I9
  refine ⟨(by show 0 ≤ sizeLine; decide), fun l9 hl9 => ?_⟩
  obtain ⟨o9, I10⟩ := I9.step (fs' := ((((((((((([("form", v)] : List (Str × V)) ++ ([("boughs", V.ref l0)] : List (Str × V))) ++ ([("parents", V.ref l1)] : List (Str × V))) ++ ([("kids", V.ref l2)] : List (Str × V))) ++ ([("depths", V.ref l3)] : List (Str × V))) ++ ([("sides", V.ref l4)] : List (Str × V))) ++ ([("lows", V.ref l5)] : List (Str × V))) ++ ([("highs", V.ref l6)] : List (Str × V))) ++ ([("ends", V.ref l7)] : List (Str × V))) ++ ([("leaves", V.ref l8)] : List (Str × V))) ++ ([("paths", V.ref l9)] : List (Str × V)))) hl9
  refine ⟨_, rfl, a, C, dx, _, rfl, o9, TC.cl, TC.n9, (by show 10 < 1000; decide), ?_⟩
  rw [putF_new (f := ("paths" : Str)) (v := V.ref l9) (fs := (((((((((([("form", v)] : List (Str × V)) ++ ([("boughs", V.ref l0)] : List (Str × V))) ++ ([("parents", V.ref l1)] : List (Str × V))) ++ ([("kids", V.ref l2)] : List (Str × V))) ++ ([("depths", V.ref l3)] : List (Str × V))) ++ ([("sides", V.ref l4)] : List (Str × V))) ++ ([("lows", V.ref l5)] : List (Str × V))) ++ ([("highs", V.ref l6)] : List (Str × V))) ++ ([("ends", V.ref l7)] : List (Str × V))) ++ ([("leaves", V.ref l8)] : List (Str × V)))) (show ∀ g ∈ (["form", "boughs", "parents", "kids", "depths", "sides", "lows", "highs", "ends", "leaves"] : List Str), ¬ g = "paths" by decide +kernel)]
  revert I10
  generalize upd (upd H9 l9 (.lst [])) a (.ins C dx ((((((((((([("form", v)] : List (Str × V)) ++ ([("boughs", V.ref l0)] : List (Str × V))) ++ ([("parents", V.ref l1)] : List (Str × V))) ++ ([("kids", V.ref l2)] : List (Str × V))) ++ ([("depths", V.ref l3)] : List (Str × V))) ++ ([("sides", V.ref l4)] : List (Str × V))) ++ ([("lows", V.ref l5)] : List (Str × V))) ++ ([("highs", V.ref l6)] : List (Str × V))) ++ ([("ends", V.ref l7)] : List (Str × V))) ++ ([("leaves", V.ref l8)] : List (Str × V))) ++ ([("paths", V.ref l9)] : List (Str × V)))) = H10
  intro I10
  have ob : H10 a = some (.ins C dx (stF v (fun i => [l0, l1, l2, l3, l4, l5, l6, l7, l8, l9].getD i 0))) := I10.ob
  have TA : TreeAt C H10 a dx v (fun i => [l0, l1, l2, l3, l4, l5, l6, l7, l8, l9].getD i 0) (fun _ => []) := ⟨ob, fun i hi => I10.em _ (by
      rw [getD_at _ _ (show i < [l0, l1, l2, l3, l4, l5, l6, l7, l8, l9].length from hi)]
      exact List.getElem_mem _), fun i j hi hj e => by
      have e' : [l0, l1, l2, l3, l4, l5, l6, l7, l8, l9].getD i 0 = [l0, l1, l2, l3, l4, l5, l6, l7, l8, l9].getD j 0 := e
      rw [getD_at _ _ (show i < [l0, l1, l2, l3, l4, l5, l6, l7, l8, l9].length from hi), getD_at _ _ (show j < [l0, l1, l2, l3, l4, l5, l6, l7, l8, l9].length from hj)] at e'
      exact (List.getElem_inj (show [l0, l1, l2, l3, l4, l5, l6, l7, l8, l9].Nodup from I10.nd)).mp e'⟩
  have fr : ∀ i, i < 10 → H ([l0, l1, l2, l3, l4, l5, l6, l7, l8, l9].getD i 0) = none := fun i hi => I10.fr _ (by
      rw [getD_at _ _ (show i < [l0, l1, l2, l3, l4, l5, l6, l7, l8, l9].length from hi)]
      exact List.getElem_mem _)
  revert TA fr
  generalize hL : (fun i => [l0, l1, l2, l3, l4, l5, l6, l7, l8, l9].getD i 0) = L
  intro TA fr
  have fr' : ∀ i, i < 10 → H (L i) = none := fun i hi => by rw [← hL]; exact fr i hi
  obtain ⟨b', bs, rfl, hb, hS⟩ := hv.good g
  have kt : KeepT H H10 := fun y xs => ⟨fun e => I10.kp y _ e (fun z => by rw [z, ho] at e; exact HO.noConfusion (Option.some.inj e)), fun o e => I10.kp y _ e (fun z => by rw [z, ho] at e; exact HO.noConfusion (Option.some.inj e))⟩
  refine ⟨_, rfl, a, dx, _, rfl, TA.ob, stF_grow _ _, _, rfl, (by show 0 ≤ sizeLine; decide), fun t1 ht1 => ?_⟩
  have s1 : Same H10 (upd H10 t1 (.tup [])) := same_new ht1
  refine ⟨_, rfl, a, b', t1, dx, bs, t, t, [], .ref b', L, fun _ => [], rfl, TA.same s1, same_sqt s1 (kt_sqt kt hb), (hS.keep kt).keep (KeepT.of_same s1), SqT.of upd_same, sub_nil t, q1b, q1a, (by decide), fun i _ => ?_, fun H' S' TA' K' G' => q1c H' L S' TA' (fun y o e hy => ?_) (fun i hi => ?_) fr'⟩
  · unfold start
    rw [idx_nil, low_nil]
    split <;> rfl
  · refine K' y o (s1 _ _ (I10.kp y o e hy)) fun i hi z => ?_
    rw [z, fr' i hi] at e
    exact nomatch e
  · obtain ⟨R, eR, pR⟩ := G' i hi
    rw [eR]
    have e : (aof i t).map (([] : Ad) ++ ·) = aof i t := by simp
    rw [← e]
    exact pR
end
end K19

set_option Elab.async false
set_option linter.all false
set_option maxRecDepth 100000
set_option maxHeartbeats 4000000
namespace K19
open PySem PySem.Spec PyProof.Rows L2 Dt
/-! ### a made tree -/
def Tree (K : PySem.W.Frag) (H : Hp) (C a : Addr) (T : Dt) : Prop := ∃ dx fv L S, TreeAt C H a dx fv L S ∧ Full K H T S ∧ ShV K H fv T ∧ T.nodes ≤ 1000
theorem Tree.same {K : PySem.W.Frag} {H H' : Hp} {C a : Addr} {T : Dt} (t : Tree K H C a T) (e : Same H H') : Tree K H' C a T := by
  obtain ⟨dx, fv, L, S, h1, h2, h3, h4⟩ := t
  exact ⟨dx, fv, L, S, h1.same e, fun i hi => Paired.mono (fun v q c => Cell.keep (KeepT.of_same e) i v q c) (h2 i hi), h3.keep (KeepT.of_same e), h4⟩
theorem Paired.at {α β : Type} {F : α → β → Prop} : ∀ {l : List α} {m : List β}, Paired F l m → ∀ {i : Nat} {b : β}, m[i]? = some b → ∃ a, l[i]? = some a ∧ F a b
  | _, _, .nil, i, b, h => by simp at h
  | _, _, .cons r t, 0, b, h => by
    obtain rfl := Option.some.inj h
    exact ⟨_, rfl, r⟩
  | _, _, .cons r t, i + 1, b, h => Paired.at t (i := i) (b := b) (by simpa using h)
theorem idx_at {T : Dt} {p : Ad} (h : p ∈ ad T) : (ad T)[T.idx p]? = some p := by
  obtain ⟨u, hu⟩ := ad_sub h
  exact ad_at hu
theorem Full.node {K : PySem.W.Frag} {H : Hp} {T : Dt} {S : Nat → List V} (f : Full K H T S) {k : Nat} (hk : k < 8) {p : Ad} (hp : p ∈ ad T) : ∃ v, atI (S k) (T.idx p : Nat) = some v ∧ Cell K H T k v p := by
  have h := f k (by omega)
  unfold aof at h
  rw [if_pos hk] at h
  obtain ⟨v, h1, h2⟩ := Paired.at h (idx_at hp)
  exact ⟨v, atI_nat h1, h2⟩
theorem Full.len {K : PySem.W.Frag} {H : Hp} {T : Dt} {S : Nat → List V} (f : Full K H T S) {k : Nat} (hk : k < 8) : (S k).length = T.nodes := by
  have h := f k (by omega)
  unfold aof at h
  rw [if_pos hk] at h
  rw [Paired.len h, ad_len]
theorem Full.lenL {K : PySem.W.Frag} {H : Hp} {T : Dt} {S : Nat → List V} (f : Full K H T S) : (S 8).length = T.lf := by
  have h := f 8 (by omega)
  have : aof 8 = lv := rfl
  rw [this] at h
  exact Paired.len h
/-- a number that is below: an address -/
theorem below_ad {T : Dt} {o : Option Int} (h : belowB (T.nodes : Nat) o = true) : ∃ p, p ∈ ad T ∧ o = some (T.idx p : Nat) := by
  cases o with
  | none => exact nomatch h
  | some i =>
    have h' : (decide (0 ≤ i) && decide (i < (T.nodes : Nat))) = true := h
    rw [Bool.and_eq_true] at h'
    have h1 := of_decide_eq_true h'.1
    have h2 := of_decide_eq_true h'.2
    have h3 : i.toNat < (ad T).length := by rw [ad_len]; omega
    refine ⟨(ad T)[i.toNat], List.getElem_mem h3, ?_⟩
    rw [idx_of (List.getElem?_eq_getElem h3)]
    congr 1
    omega
theorem below_lv {T : Dt} {o : Option Int} (h : belowB (T.lf : Nat) o = true) : ∃ (i : Nat) (p : Ad), (lv T)[i]? = some p ∧ o = some (i : Nat) := by
  cases o with
  | none => exact nomatch h
  | some i =>
    have h' : (decide (0 ≤ i) && decide (i < (T.lf : Nat))) = true := h
    rw [Bool.and_eq_true] at h'
    have h1 := of_decide_eq_true h'.1
    have h2 := of_decide_eq_true h'.2
    have h3 : i.toNat < (lv T).length := by
      show i.toNat < T.lf
      omega
    refine ⟨i.toNat, (lv T)[i.toNat], List.getElem?_eq_getElem h3, ?_⟩
    congr 1
    omega
theorem ad_below {T : Dt} {p : Ad} (h : p ∈ ad T) : belowB (T.nodes : Nat) (some (T.idx p : Nat)) = true := by
  obtain ⟨u, hu⟩ := ad_sub h
  have h1 := idx_lt hu
  have h2 := u.nodes_pos
  show (decide ((0 : Int) ≤ (T.idx p : Nat)) && decide (((T.idx p : Nat) : Int) < (T.nodes : Nat))) = true
  rw [Bool.and_eq_true]
  exact ⟨decide_eq_true (by omega), decide_eq_true (by omega)⟩
/-- what an error's way out says -/
def Out (U : Addr) (z : Str) (H : Hp) (E : XK) : Prop := ∀ d, H d = none → E (.ref U) (some d) (upd H d (xdO z (-1)))
section
variable {P : Program} {w : World} {K : PySem.W.Frag} {mg : Str → Option Value} {base : Heap} {C U fG : Addr}
def spNeedNode (K : PySem.W.Frag) (C U : Addr) : Sp := fun vs H Q E => ∃ a x o T z, vs = [.ref a, x, .str z] ∧ Tree K H C a T ∧ NumV K H x o ∧ (belowB (T.nodes : Nat) o = true → Q .non H) ∧ (belowB (T.nodes : Nat) o = false → Out U z H E)
def spNeedQueue (K : PySem.W.Frag) (C U : Addr) : Sp := fun vs H Q E => ∃ a x o T z, vs = [.ref a, x, .str z] ∧ Tree K H C a T ∧ NumV K H x o ∧ (belowB (T.lf : Nat) o = true → Q .non H) ∧ (belowB (T.lf : Nat) o = false → Out U z H E)
theorem ok_need_node (D : DefAt K mg "need_node" s_need_node ["tree", "node", "word"]) (T : Txt K mg) (TC : TCl K mg C fG) (GB : CalX P w K mg base CX0 3 "is_below" ["thing", "bound"] (spBelow K)) (GN : CalX P w K mg base (L2.CX P w) 3 "need" ["fits", "word"] (spNeed U)) :
    CalX P w K mg base (L2.CX P w) 4 "need_node" ["tree", "node", "word"] (spNeedNode K C U) := by
  refine D.okX sc_need_node (fun vs H Q E h => ?_) (fun f cdv A outer s H vs Q E hr h => ?_)
  · obtain ⟨a, x, o, t, z, rfl, _⟩ := h
    rfl
  obtain ⟨a, x, o, t, z, rfl, ⟨dx, fv, L, S, hT, hF, hV, h1⟩, hx, q1, q2⟩ := h
  refine ⟨_, pss_one (ps_expr (pe_cx GN hr (by decide) rfl (passes_call (takes_of rfl rfl rfl rfl) (fun _ _ _ _ h => h)) (pa_cons (pe_c0 GB hr (by decide) rfl (pa_cons (pv 1) (pa_cons (pe_callB call_len_seq (by rfl) T.len PySem.boot_len (pa_cons (pe_fld (pv 0) rfl) pa_nil)) pa_nil))) (pa_cons (pv 2) pa_nil)))), ?_⟩
  refine ⟨_, rfl, _, rfl, a, C, dx, _, _, rfl, hT.ob, TC.cl, TC.n2, stF_2 _ _, L 2, _, rfl, .inl (SqL.of (hT.ls 2 (by decide))), ?_⟩
  rw [hF.len (k := 2) (by decide)]
  exact ⟨x, o, _, rfl, hx, _, rfl, _, z, rfl, q1, q2⟩
theorem ok_need_queue (D : DefAt K mg "need_queue" s_need_queue ["tree", "queue", "word"]) (T : Txt K mg) (TC : TCl K mg C fG) (GB : CalX P w K mg base CX0 3 "is_below" ["thing", "bound"] (spBelow K)) (GN : CalX P w K mg base (L2.CX P w) 3 "need" ["fits", "word"] (spNeed U)) :
    CalX P w K mg base (L2.CX P w) 4 "need_queue" ["tree", "queue", "word"] (spNeedQueue K C U) := by
  refine D.okX sc_need_queue (fun vs H Q E h => ?_) (fun f cdv A outer s H vs Q E hr h => ?_)
  · obtain ⟨a, x, o, t, z, rfl, _⟩ := h
    rfl
  obtain ⟨a, x, o, t, z, rfl, ⟨dx, fv, L, S, hT, hF, hV, h1⟩, hx, q1, q2⟩ := h
  refine ⟨_, pss_one (ps_expr (pe_cx GN hr (by decide) rfl (passes_call (takes_of rfl rfl rfl rfl) (fun _ _ _ _ h => h)) (pa_cons (pe_c0 GB hr (by decide) rfl (pa_cons (pv 1) (pa_cons (pe_callB call_len_seq (by rfl) T.len PySem.boot_len (pa_cons (pe_fld (pv 0) rfl) pa_nil)) pa_nil))) (pa_cons (pv 2) pa_nil)))), ?_⟩
  refine ⟨_, rfl, _, rfl, a, C, dx, _, _, rfl, hT.ob, TC.cl, TC.n8, stF_8 _ _, L 8, _, rfl, .inl (SqL.of (hT.ls 8 (by decide))), ?_⟩
  rw [hF.lenL]
  exact ⟨x, o, _, rfl, hx, _, rfl, _, z, rfl, q1, q2⟩
/-- a question with a node: the cell of list k -/
def spNodeQ (K : PySem.W.Frag) (C U : Addr) (k : Nat) : Sp := fun vs H Q E => ∃ a x o T, vs = [.ref a, x] ∧ Tree K H C a T ∧ NumV K H x o ∧ (∀ p v, o = some (T.idx p : Nat) → p ∈ ad T → Cell K H T k v p → Q v H) ∧ (belowB (T.nodes : Nat) o = false → Out U "node" H E)
/-- a question with a queue -/
def spQueueQ (K : PySem.W.Frag) (C U : Addr) (k : Nat) : Sp := fun vs H Q E => ∃ a x o T, vs = [.ref a, x] ∧ Tree K H C a T ∧ NumV K H x o ∧ (∀ (i : Nat) p v, o = some (i : Nat) → (lv T)[i]? = some p → Cell K H T k v p → Q v H) ∧ (belowB (T.lf : Nat) o = false → Out U "queue" H E)
theorem ok_bough_of {f : Addr} {fd : FuncData} (F : Fun K "bough_of" "ShapeTree.bough_of" s_ShapeTree_bough_of f fd) (TC : TCl K mg C fG) (GN : CalX P w K mg base (L2.CX P w) 4 "need_node" ["tree", "node", "word"] (spNeedNode K C U)) :
    FnOk P w K mg base (L2.CX P w) 5 f fd ["self", "node"] (spNodeQ K C U 0) := by
  refine F.okX sc_ShapeTree_bough_of (fun vs H Q E h => ?_) (fun cdv A outer s H vs Q E hr h => ?_)
  · obtain ⟨a, x, o, t, rfl, _⟩ := h
    rfl
  obtain ⟨a, x, o, t, rfl, hTr, hx, q1, q2⟩ := h
  refine ⟨_, pss_cons (ps_expr (pe_cx GN hr (by decide) rfl (passes_call (takes_of rfl rfl rfl rfl) (fun _ _ _ _ h => h)) (pa_cons (pv 0) (pa_cons (pv 1) (pa_cons pe_str pa_nil)))))
    (pss_one (ps_ret (pe_ix ix_list (pe_fld (pv 0) rfl) (pv 1) (fun _ _ => rfl)))), ?_⟩
  refine ⟨_, rfl, _, rfl, a, x, o, t, _, rfl, hTr, hx, fun e => ?_, q2⟩
  obtain ⟨p, hp, rfl⟩ := below_ad e
  obtain rfl : x = .int (t.idx p : Nat) := hx
  obtain ⟨dx, fv, L, S, hT, hF, hV, h1⟩ := hTr
  obtain ⟨v, e1, e2⟩ := hF.node (k := 0) (by decide) hp
  exact ⟨_, rfl, a, C, dx, _, _, rfl, hT.ob, TC.cl, TC.n0, stF_0 _ _, _, rfl, L 0, _, _, _, rfl, rfl, SqL.of (hT.ls 0 (by decide)), e1, q1 p v rfl hp e2⟩
theorem ok_parent_of {f : Addr} {fd : FuncData} (F : Fun K "parent_of" "ShapeTree.parent_of" s_ShapeTree_parent_of f fd) (TC : TCl K mg C fG) (GN : CalX P w K mg base (L2.CX P w) 4 "need_node" ["tree", "node", "word"] (spNeedNode K C U)) :
    FnOk P w K mg base (L2.CX P w) 5 f fd ["self", "node"] (spNodeQ K C U 1) := by
  refine F.okX sc_ShapeTree_parent_of (fun vs H Q E h => ?_) (fun cdv A outer s H vs Q E hr h => ?_)
  · obtain ⟨a, x, o, t, rfl, _⟩ := h
    rfl
  obtain ⟨a, x, o, t, rfl, hTr, hx, q1, q2⟩ := h
  refine ⟨_, pss_cons (ps_expr (pe_cx GN hr (by decide) rfl (passes_call (takes_of rfl rfl rfl rfl) (fun _ _ _ _ h => h)) (pa_cons (pv 0) (pa_cons (pv 1) (pa_cons pe_str pa_nil)))))
    (pss_one (ps_ret (pe_ix ix_list (pe_fld (pv 0) rfl) (pv 1) (fun _ _ => rfl)))), ?_⟩
  refine ⟨_, rfl, _, rfl, a, x, o, t, _, rfl, hTr, hx, fun e => ?_, q2⟩
  obtain ⟨p, hp, rfl⟩ := below_ad e
  obtain rfl : x = .int (t.idx p : Nat) := hx
  obtain ⟨dx, fv, L, S, hT, hF, hV, h1⟩ := hTr
  obtain ⟨v, e1, e2⟩ := hF.node (k := 1) (by decide) hp
  exact ⟨_, rfl, a, C, dx, _, _, rfl, hT.ob, TC.cl, TC.n1, stF_1 _ _, _, rfl, L 1, _, _, _, rfl, rfl, SqL.of (hT.ls 1 (by decide)), e1, q1 p v rfl hp e2⟩
theorem ok_kids_of {f : Addr} {fd : FuncData} (F : Fun K "kids_of" "ShapeTree.kids_of" s_ShapeTree_kids_of f fd) (TC : TCl K mg C fG) (GN : CalX P w K mg base (L2.CX P w) 4 "need_node" ["tree", "node", "word"] (spNeedNode K C U)) :
    FnOk P w K mg base (L2.CX P w) 5 f fd ["self", "node"] (spNodeQ K C U 2) := by
  refine F.okX sc_ShapeTree_kids_of (fun vs H Q E h => ?_) (fun cdv A outer s H vs Q E hr h => ?_)
  · obtain ⟨a, x, o, t, rfl, _⟩ := h
    rfl
  obtain ⟨a, x, o, t, rfl, hTr, hx, q1, q2⟩ := h
  refine ⟨_, pss_cons (ps_expr (pe_cx GN hr (by decide) rfl (passes_call (takes_of rfl rfl rfl rfl) (fun _ _ _ _ h => h)) (pa_cons (pv 0) (pa_cons (pv 1) (pa_cons pe_str pa_nil)))))
    (pss_one (ps_ret (pe_ix ix_list (pe_fld (pv 0) rfl) (pv 1) (fun _ _ => rfl)))), ?_⟩
  refine ⟨_, rfl, _, rfl, a, x, o, t, _, rfl, hTr, hx, fun e => ?_, q2⟩
  obtain ⟨p, hp, rfl⟩ := below_ad e
  obtain rfl : x = .int (t.idx p : Nat) := hx
  obtain ⟨dx, fv, L, S, hT, hF, hV, h1⟩ := hTr
  obtain ⟨v, e1, e2⟩ := hF.node (k := 2) (by decide) hp
  exact ⟨_, rfl, a, C, dx, _, _, rfl, hT.ob, TC.cl, TC.n2, stF_2 _ _, _, rfl, L 2, _, _, _, rfl, rfl, SqL.of (hT.ls 2 (by decide)), e1, q1 p v rfl hp e2⟩
theorem ok_depth_of {f : Addr} {fd : FuncData} (F : Fun K "depth_of" "ShapeTree.depth_of" s_ShapeTree_depth_of f fd) (TC : TCl K mg C fG) (GN : CalX P w K mg base (L2.CX P w) 4 "need_node" ["tree", "node", "word"] (spNeedNode K C U)) :
    FnOk P w K mg base (L2.CX P w) 5 f fd ["self", "node"] (spNodeQ K C U 3) := by
  refine F.okX sc_ShapeTree_depth_of (fun vs H Q E h => ?_) (fun cdv A outer s H vs Q E hr h => ?_)
  · obtain ⟨a, x, o, t, rfl, _⟩ := h
    rfl
  obtain ⟨a, x, o, t, rfl, hTr, hx, q1, q2⟩ := h
  refine ⟨_, pss_cons (ps_expr (pe_cx GN hr (by decide) rfl (passes_call (takes_of rfl rfl rfl rfl) (fun _ _ _ _ h => h)) (pa_cons (pv 0) (pa_cons (pv 1) (pa_cons pe_str pa_nil)))))
    (pss_one (ps_ret (pe_ix ix_list (pe_fld (pv 0) rfl) (pv 1) (fun _ _ => rfl)))), ?_⟩
  refine ⟨_, rfl, _, rfl, a, x, o, t, _, rfl, hTr, hx, fun e => ?_, q2⟩
  obtain ⟨p, hp, rfl⟩ := below_ad e
  obtain rfl : x = .int (t.idx p : Nat) := hx
  obtain ⟨dx, fv, L, S, hT, hF, hV, h1⟩ := hTr
  obtain ⟨v, e1, e2⟩ := hF.node (k := 3) (by decide) hp
  exact ⟨_, rfl, a, C, dx, _, _, rfl, hT.ob, TC.cl, TC.n3, stF_3 _ _, _, rfl, L 3, _, _, _, rfl, rfl, SqL.of (hT.ls 3 (by decide)), e1, q1 p v rfl hp e2⟩
theorem ok_low_of {f : Addr} {fd : FuncData} (F : Fun K "low_of" "ShapeTree.low_of" s_ShapeTree_low_of f fd) (TC : TCl K mg C fG) (GN : CalX P w K mg base (L2.CX P w) 4 "need_node" ["tree", "node", "word"] (spNeedNode K C U)) :
    FnOk P w K mg base (L2.CX P w) 5 f fd ["self", "node"] (spNodeQ K C U 5) := by
  refine F.okX sc_ShapeTree_low_of (fun vs H Q E h => ?_) (fun cdv A outer s H vs Q E hr h => ?_)
  · obtain ⟨a, x, o, t, rfl, _⟩ := h
    rfl
  obtain ⟨a, x, o, t, rfl, hTr, hx, q1, q2⟩ := h
  refine ⟨_, pss_cons (ps_expr (pe_cx GN hr (by decide) rfl (passes_call (takes_of rfl rfl rfl rfl) (fun _ _ _ _ h => h)) (pa_cons (pv 0) (pa_cons (pv 1) (pa_cons pe_str pa_nil)))))
    (pss_one (ps_ret (pe_ix ix_list (pe_fld (pv 0) rfl) (pv 1) (fun _ _ => rfl)))), ?_⟩
  refine ⟨_, rfl, _, rfl, a, x, o, t, _, rfl, hTr, hx, fun e => ?_, q2⟩
  obtain ⟨p, hp, rfl⟩ := below_ad e
  obtain rfl : x = .int (t.idx p : Nat) := hx
  obtain ⟨dx, fv, L, S, hT, hF, hV, h1⟩ := hTr
  obtain ⟨v, e1, e2⟩ := hF.node (k := 5) (by decide) hp
  exact ⟨_, rfl, a, C, dx, _, _, rfl, hT.ob, TC.cl, TC.n5, stF_5 _ _, _, rfl, L 5, _, _, _, rfl, rfl, SqL.of (hT.ls 5 (by decide)), e1, q1 p v rfl hp e2⟩
theorem ok_high_of {f : Addr} {fd : FuncData} (F : Fun K "high_of" "ShapeTree.high_of" s_ShapeTree_high_of f fd) (TC : TCl K mg C fG) (GN : CalX P w K mg base (L2.CX P w) 4 "need_node" ["tree", "node", "word"] (spNeedNode K C U)) :
    FnOk P w K mg base (L2.CX P w) 5 f fd ["self", "node"] (spNodeQ K C U 6) := by
  refine F.okX sc_ShapeTree_high_of (fun vs H Q E h => ?_) (fun cdv A outer s H vs Q E hr h => ?_)
  · obtain ⟨a, x, o, t, rfl, _⟩ := h
    rfl
  obtain ⟨a, x, o, t, rfl, hTr, hx, q1, q2⟩ := h
  refine ⟨_, pss_cons (ps_expr (pe_cx GN hr (by decide) rfl (passes_call (takes_of rfl rfl rfl rfl) (fun _ _ _ _ h => h)) (pa_cons (pv 0) (pa_cons (pv 1) (pa_cons pe_str pa_nil)))))
    (pss_one (ps_ret (pe_ix ix_list (pe_fld (pv 0) rfl) (pv 1) (fun _ _ => rfl)))), ?_⟩
  refine ⟨_, rfl, _, rfl, a, x, o, t, _, rfl, hTr, hx, fun e => ?_, q2⟩
  obtain ⟨p, hp, rfl⟩ := below_ad e
  obtain rfl : x = .int (t.idx p : Nat) := hx
  obtain ⟨dx, fv, L, S, hT, hF, hV, h1⟩ := hTr
  obtain ⟨v, e1, e2⟩ := hF.node (k := 6) (by decide) hp
  exact ⟨_, rfl, a, C, dx, _, _, rfl, hT.ob, TC.cl, TC.n6, stF_6 _ _, _, rfl, L 6, _, _, _, rfl, rfl, SqL.of (hT.ls 6 (by decide)), e1, q1 p v rfl hp e2⟩
theorem ok_node_of {f : Addr} {fd : FuncData} (F : Fun K "node_of" "ShapeTree.node_of" s_ShapeTree_node_of f fd) (TC : TCl K mg C fG) (GN : CalX P w K mg base (L2.CX P w) 4 "need_queue" ["tree", "queue", "word"] (spNeedQueue K C U)) :
    FnOk P w K mg base (L2.CX P w) 5 f fd ["self", "queue"] (spQueueQ K C U 8) := by
  refine F.okX sc_ShapeTree_node_of (fun vs H Q E h => ?_) (fun cdv A outer s H vs Q E hr h => ?_)
  · obtain ⟨a, x, o, t, rfl, _⟩ := h
    rfl
  obtain ⟨a, x, o, t, rfl, hTr, hx, q1, q2⟩ := h
  refine ⟨_, pss_cons (ps_expr (pe_cx GN hr (by decide) rfl (passes_call (takes_of rfl rfl rfl rfl) (fun _ _ _ _ h => h)) (pa_cons (pv 0) (pa_cons (pv 1) (pa_cons pe_str pa_nil)))))
    (pss_one (ps_ret (pe_ix ix_list (pe_fld (pv 0) rfl) (pv 1) (fun _ _ => rfl)))), ?_⟩
  refine ⟨_, rfl, _, rfl, a, x, o, t, _, rfl, hTr, hx, fun e => ?_, q2⟩
  obtain ⟨i, p, hp, rfl⟩ := below_lv e
  obtain rfl : x = .int (i : Nat) := hx
  obtain ⟨dx, fv, L, S, hT, hF, hV, h1⟩ := hTr
  have h := hF 8 (by decide)
  obtain ⟨v, e1, e2⟩ := Paired.at h (show (aof 8 t)[i]? = some p from hp)
  exact ⟨_, rfl, a, C, dx, _, _, rfl, hT.ob, TC.cl, TC.n8, stF_8 _ _, _, rfl, L 8, _, _, _, rfl, rfl, SqL.of (hT.ls 8 (by decide)), atI_nat e1, q1 i p v rfl hp e2⟩
theorem ok_path_of {f : Addr} {fd : FuncData} (F : Fun K "path_of" "ShapeTree.path_of" s_ShapeTree_path_of f fd) (TC : TCl K mg C fG) (GN : CalX P w K mg base (L2.CX P w) 4 "need_queue" ["tree", "queue", "word"] (spNeedQueue K C U)) :
    FnOk P w K mg base (L2.CX P w) 5 f fd ["self", "queue"] (spQueueQ K C U 9) := by
  refine F.okX sc_ShapeTree_path_of (fun vs H Q E h => ?_) (fun cdv A outer s H vs Q E hr h => ?_)
  · obtain ⟨a, x, o, t, rfl, _⟩ := h
    rfl
  obtain ⟨a, x, o, t, rfl, hTr, hx, q1, q2⟩ := h
  refine ⟨_, pss_cons (ps_expr (pe_cx GN hr (by decide) rfl (passes_call (takes_of rfl rfl rfl rfl) (fun _ _ _ _ h => h)) (pa_cons (pv 0) (pa_cons (pv 1) (pa_cons pe_str pa_nil)))))
    (pss_one (ps_ret (pe_ix ix_list (pe_fld (pv 0) rfl) (pv 1) (fun _ _ => rfl)))), ?_⟩
  refine ⟨_, rfl, _, rfl, a, x, o, t, _, rfl, hTr, hx, fun e => ?_, q2⟩
  obtain ⟨i, p, hp, rfl⟩ := below_lv e
  obtain rfl : x = .int (i : Nat) := hx
  obtain ⟨dx, fv, L, S, hT, hF, hV, h1⟩ := hTr
  have h := hF 9 (by decide)
  obtain ⟨v, e1, e2⟩ := Paired.at h (show (aof 9 t)[i]? = some p from hp)
  exact ⟨_, rfl, a, C, dx, _, _, rfl, hT.ob, TC.cl, TC.n9, stF_9 _ _, _, rfl, L 9, _, _, _, rfl, rfl, SqL.of (hT.ls 9 (by decide)), atI_nat e1, q1 i p v rfl hp e2⟩
/-- queue_at: the queue's number, or None -/
def spQueueAt (K : PySem.W.Frag) (C U : Addr) : Sp := fun vs H Q E => ∃ a x o T, vs = [.ref a, x] ∧ Tree K H C a T ∧ NumV K H x o ∧ (∀ p, o = some (T.idx p : Nat) → p ∈ ad T → Q (if isLf T p = true then .int (T.low p : Nat) else .non) H) ∧ (belowB (T.nodes : Nat) o = false → Out U "node" H E)
theorem ok_queue_at {f : Addr} {fd : FuncData} (F : Fun K "queue_at" "ShapeTree.queue_at" s_ShapeTree_queue_at f fd) (TC : TCl K mg C fG) (GN : CalX P w K mg base (L2.CX P w) 4 "need_node" ["tree", "node", "word"] (spNeedNode K C U)) :
    FnOk P w K mg base (L2.CX P w) 5 f fd ["self", "node"] (spQueueAt K C U) := by
  refine F.okX sc_ShapeTree_queue_at (fun vs H Q E h => ?_) (fun cdv A outer s H vs Q E hr h => ?_)
  · obtain ⟨a, x, o, t, rfl, _⟩ := h
    rfl
  obtain ⟨a, x, o, t, rfl, hTr, hx, q1, q2⟩ := h
  refine ⟨_, pss_cons (ps_expr (pe_cx GN hr (by decide) rfl (passes_call (takes_of rfl rfl rfl rfl) (fun _ _ _ _ h => h)) (pa_cons (pv 0) (pa_cons (pv 1) (pa_cons pe_str pa_nil)))))
    (pss_one (ps_ret (pe_ifExp (pt_truth (pe_ix ix_list (pe_fld (pv 0) rfl) (pv 1) (fun _ _ => rfl)) (by intro _; rfl)) pe_non (pe_ix ix_list (pe_fld (pv 0) rfl) (pv 1) (fun _ _ => rfl))))), ?_⟩
  refine ⟨_, rfl, _, rfl, a, x, o, t, _, rfl, hTr, hx, fun e => ?_, q2⟩
  obtain ⟨p, hp, rfl⟩ := below_ad e
  obtain rfl : x = .int (t.idx p : Nat) := hx
  obtain ⟨dx, fv, L, S, hT, hF, hV, h1⟩ := hTr
  obtain ⟨v, e1, wd, b, e2, rfl, e3⟩ := hF.node (k := 2) (by decide) hp
  obtain ⟨v5, e5, rfl⟩ := hF.node (k := 5) (by decide) hp
  refine ⟨_, rfl, a, C, dx, _, _, rfl, hT.ob, TC.cl, TC.n2, stF_2 _ _, _, rfl, L 2, _, _, _, rfl, rfl, SqL.of (hT.ls 2 (by decide)), e1, !(kidV t p wd).isEmpty, .inr (.inl ⟨_, e3, rfl⟩), ?_⟩
  have q := q1 p rfl hp
  rw [isLf_o e2] at q
  cases hw : wd.len with
  | zero =>
    rw [hw] at q
    have ek : kidV t p wd = [] := by
      unfold kidV
      rw [hw]
      rfl
    rw [ek]
    refine iteF ?_
    exact ⟨_, rfl, a, C, dx, _, _, rfl, hT.ob, TC.cl, TC.n5, stF_5 _ _, _, rfl, L 5, _, _, _, rfl, rfl, SqL.of (hT.ls 5 (by decide)), e5, q⟩
  | succ n =>
    rw [hw] at q
    have ek : (kidV t p wd).isEmpty = false := by
      unfold kidV
      rw [hw, List.range_succ]
      simp
    rw [ek]
    exact iteT q
def spForm (K : PySem.W.Frag) (C : Addr) : Sp := fun vs H Q E => ∃ a T, vs = [.ref a] ∧ Tree K H C a T ∧ (∀ v, ShV K H v T → Q v H)
theorem ok_form_of {f : Addr} {fd : FuncData} (F : Fun K "form_of" "ShapeTree.form_of" s_ShapeTree_form_of f fd) (TC : TCl K mg C fG) : FnOk P w K mg base CX0 1 f fd ["self"] (spForm K C) := by
  refine F.ok sc_ShapeTree_form_of (fun vs H Q E h => ?_) (fun cdv A outer s H vs Q E hr h => ?_)
  · obtain ⟨a, t, rfl, _⟩ := h
    rfl
  obtain ⟨a, t, rfl, ⟨dx, fv, L, S, hT, hF, hV, h1⟩, q⟩ := h
  exact ⟨_, pss_one (ps_ret (pe_fld (pv 0) rfl)), _, rfl, a, C, dx, _, _, rfl, hT.ob, TC.cl, TC.nF, stF_form _ _, q fv hV⟩
/-! ### within, meet, toward -/
def spWithin (K : PySem.W.Frag) (C : Addr) : Sp := fun vs H Q E => ∃ a T p q, vs = [.ref a, .int (T.idx q : Nat), .int (T.idx p : Nat)] ∧ Tree K H C a T ∧ p ∈ ad T ∧ q ∈ ad T ∧ Q (.bl (decide (p <+: q))) H
theorem ok_within (D : DefAt K mg "is_within" s_is_within ["tree", "node", "top"]) (TC : TCl K mg C fG) : CalX P w K mg base CX0 1 "is_within" ["tree", "node", "top"] (spWithin K C) := by
  refine D.ok sc_is_within (fun vs H Q E h => ?_) (fun f cdv A outer s H vs Q E hr h => ?_)
  · obtain ⟨a, t, p, q, rfl, _⟩ := h
    rfl
  obtain ⟨a, t, p, q, rfl, ⟨dx, fv, L, S, hT, hF, hV, h1⟩, hp, hq, qq⟩ := h
  obtain ⟨u, hu⟩ := ad_sub hp
  obtain ⟨v7, e7, wd, e8, rfl⟩ := hF.node (k := 7) (by decide) hp
  obtain rfl := Option.some.inj (e8.symm.trans hu)
  refine ⟨_, pss_one (ps_ret (pe_chain op_le op_lt (pv 2) (pv 1) (pe_ix ix_list (pe_fld (pv 0) rfl) (pv 2) (fun _ _ => rfl)))), ?_⟩
  refine ⟨_, rfl, _, rfl, _, _, rfl, rfl, _, rfl, ?_⟩
  have hw := within hu hq
  refine ite2 (fun c => ?_) (fun c => ?_)
  · have c' : ((t.idx p : Nat) : Int) ≤ (t.idx q : Nat) := of_decide_eq_true c
    refine ⟨_, rfl, a, C, dx, _, _, rfl, hT.ob, TC.cl, TC.n7, stF_7 _ _, _, rfl, L 7, _, _, _, rfl, rfl, SqL.of (hT.ls 7 (by decide)), e7, _, _, rfl, rfl, ?_⟩
    have e : decide (((t.idx q : Nat) : Int) < ((t.idx p + wd.nodes : Nat) : Int)) = decide (p <+: q) := by
      by_cases z : p <+: q
      · rw [decide_eq_true z]
        have := hw.mpr z
        exact decide_eq_true (by omega)
      · rw [decide_eq_false z]
        exact decide_eq_false (fun y => z (hw.mp ⟨by omega, by omega⟩))
    show Q (.bl (decide (((t.idx q : Nat) : Int) < ((t.idx p + wd.nodes : Nat) : Int)))) H
    rw [e]
    exact qq
  · have c' : ¬ ((t.idx p : Nat) : Int) ≤ (t.idx q : Nat) := fun z => c (decide_eq_true z)
    rw [decide_eq_false (fun z => c' (by have := hw.mpr z; omega))] at qq
    exact qq
theorem take_ad {T : Dt} {p : Ad} (h : p ∈ ad T) (k : Nat) : p.take k ∈ ad T := pre_ad h (List.take_prefix k p)
theorem par_take {T : Dt} {p : Ad} {k : Nat} (h1 : 1 ≤ k) (h2 : k ≤ p.length) : parV T (p.take k) = .int (T.idx (p.take (k - 1)) : Nat) := by
  unfold parV
  have e : p.take k ≠ [] := fun z => by
    have := congrArg List.length z
    rw [List.length_take, show ([] : Ad).length = 0 from rfl] at this
    omega
  rw [if_neg e, List.dropLast_eq_take, List.length_take, List.take_take, show min (min k p.length - 1) k = k - 1 by omega]
def spMeetIn (K : PySem.W.Frag) (C : Addr) : Sp := fun vs H Q E => ∃ a T p q, vs = [.ref a, .int (T.idx p : Nat), .int (T.idx q : Nat)] ∧ Tree K H C a T ∧ p ∈ ad T ∧ q ∈ ad T ∧ Q (.int (T.idx (p.take (lcp p q)) : Nat)) H
theorem ok_meet_in (D : DefAt K mg "meet_in" s_meet_in ["tree", "one", "other"]) (TC : TCl K mg C fG) (GW : CalX P w K mg base CX0 1 "is_within" ["tree", "node", "top"] (spWithin K C)) : CalX P w K mg base CX0 2 "meet_in" ["tree", "one", "other"] (spMeetIn K C) := by
  refine D.ok sc_meet_in (fun vs H Q E h => ?_) (fun f cdv A outer s H vs Q E hr h => ?_)
  · obtain ⟨a, t, p, q, rfl, _⟩ := h
    rfl
  obtain ⟨a, t, p, q, rfl, hTr, hp, hq, qq⟩ := h
  obtain ⟨dx, fv, L, S, hT, hF, hV, h1⟩ := id hTr
  refine ⟨_, pss_cons (ps_set (i := 3) sc_meet_in.nd rfl (.inl rfl) (pv 1))
    (pss_cons (ps_while PassesOwn.never (pt_not (pt_val (pe_c0 GW hr (by decide) rfl (pa_cons (pv 0) (pa_cons (pv 2) (pa_cons (pv 3) pa_nil))))))
      (pss_one (ps_set (i := 3) sc_meet_in.nd rfl (.inl rfl) (pe_ix ix_list (pe_fld (pv 0) rfl) (pv 3) (fun _ _ => rfl)))))
    (pss_one (ps_ret (pv 3)))), ?_⟩
  refine ⟨_, rfl, ?_⟩
  have hl := lcp_le p q
  refine ⟨fun m σ H' => ∃ k, σ = [some (.ref a), some (.int (t.idx p : Nat)), some (.int (t.idx q : Nat)), some (.int (t.idx (p.take k) : Nat))] ∧ H' = H ∧ m = k ∧ lcp p q ≤ k ∧ k ≤ p.length,
    ⟨p.length, p.length, by rw [List.take_length]; rfl, rfl, rfl, hl.1, Nat.le_refl _⟩, ?_⟩
  rintro m σ H' ⟨k, rfl, rfl, rfl, k1, k2⟩
  refine ⟨_, rfl, _, rfl, _, rfl, a, t, p.take m, q, rfl, hTr, take_ad hp m, hq, _, rfl, ?_⟩
  have e : decide (p.take m <+: q) = decide (m ≤ lcp p q) := decide_eq_decide.mpr (lcp_pre p q m k2)
  rw [e]
  by_cases c : m ≤ lcp p q
  · rw [decide_eq_true c]
    refine iteF ?_
    have : m = lcp p q := by omega
    subst this
    exact ⟨_, rfl, qq⟩
  · rw [decide_eq_false c]
    refine iteT ?_
    obtain ⟨v, e1, e2⟩ := hF.node (k := 1) (by decide) (take_ad hp m)
    rw [show v = parV t (p.take m) from e2, par_take (by omega) k2] at e1
    refine ⟨_, fun _ _ z => z, ?_⟩
    exact ⟨_, rfl, a, C, dx, _, _, rfl, hT.ob, TC.cl, TC.n1, stF_1 _ _, _, rfl, L 1, _, _, _, rfl, rfl, SqL.of (hT.ls 1 (by decide)), e1, m - 1, by omega, m - 1, rfl, rfl, rfl, by omega, by omega⟩
def spSide (K : PySem.W.Frag) (C : Addr) : Sp := fun vs H Q E => ∃ a T p q n, vs = [.ref a, .int (T.idx p : Nat), .int (T.idx q : Nat)] ∧ Tree K H C a T ∧ q ∈ ad T ∧ p <+: q ∧ q[p.length]? = some n ∧ Q (.int (n : Nat)) H
theorem ok_side (D : DefAt K mg "side_toward" s_side_toward ["tree", "node", "down"]) (TC : TCl K mg C fG) : CalX P w K mg base CX0 1 "side_toward" ["tree", "node", "down"] (spSide K C) := by
  refine D.ok sc_side_toward (fun vs H Q E h => ?_) (fun f cdv A outer s H vs Q E hr h => ?_)
  · obtain ⟨a, t, p, q, n, rfl, _⟩ := h
    rfl
  obtain ⟨a, t, p, q, n, rfl, hTr, hq, hpq, hn, qq⟩ := h
  obtain ⟨dx, fv, L, S, hT, hF, hV, h1⟩ := id hTr
  have hp := pre_ad hq hpq
  refine ⟨_, pss_cons (ps_set (i := 3) sc_side_toward.nd rfl (.inl rfl) (pv 2))
    (pss_cons (ps_while PassesOwn.never (pt_cmpR op_ne (pe_ix ix_list (pe_fld (pv 0) rfl) (pv 3) (fun _ _ => rfl)) (pv 1) (nomark _))
      (pss_one (ps_set (i := 3) sc_side_toward.nd rfl (.inl rfl) (pe_ix ix_list (pe_fld (pv 0) rfl) (pv 3) (fun _ _ => rfl)))))
    (pss_one (ps_ret (pe_ix ix_list (pe_fld (pv 0) rfl) (pv 3) (fun _ _ => rfl))))), ?_⟩
  refine ⟨_, rfl, ?_⟩
  have hnl := (List.getElem?_eq_some_iff.mp hn).1
  refine ⟨fun m σ H' => ∃ k, σ = [some (.ref a), some (.int (t.idx p : Nat)), some (.int (t.idx q : Nat)), some (.int (t.idx (q.take k) : Nat))] ∧ H' = H ∧ m = k ∧ p.length < k ∧ k ≤ q.length,
    ⟨q.length, q.length, by rw [List.take_length]; rfl, rfl, rfl, hnl, Nat.le_refl _⟩, ?_⟩
  rintro m σ H' ⟨k, rfl, rfl, rfl, k1, k2⟩
  obtain ⟨v, e1, e2⟩ := hF.node (k := 1) (by decide) (take_ad hq m)
  rw [show v = parV t (q.take m) from e2, par_take (by omega) k2] at e1
  refine ⟨_, rfl, a, C, dx, _, _, rfl, hT.ob, TC.cl, TC.n1, stF_1 _ _, _, rfl, L 1, _, _, _, rfl, rfl, SqL.of (hT.ls 1 (by decide)), e1, _, rfl, rfl, _, rfl, ?_⟩
  by_cases c : m = p.length + 1
  · have e : q.take (m - 1) = p := by
      rw [c]
      exact pre_take.mpr hpq
    rw [e]
    rw [show (decide (V.int (t.idx p : Nat) = V.int (t.idx p : Nat))) = true by simp]
    refine iteF ?_
    obtain ⟨v4, e4, e5⟩ := hF.node (k := 4) (by decide) (take_ad hq m)
    have e6 : v4 = .int (n : Nat) := by
      rw [show v4 = .int (sideI (q.take m)) from e5, c, List.take_add_one, hn]
      show V.int (sideI (q.take p.length ++ [n])) = _
      rw [sideI_snoc]
    rw [e6] at e4
    exact ⟨_, rfl, a, C, dx, _, _, rfl, hT.ob, TC.cl, TC.n4, stF_4 _ _, _, rfl, L 4, _, _, _, rfl, rfl, SqL.of (hT.ls 4 (by decide)), e4, qq⟩
  · have e : (decide (V.int (t.idx (q.take (m - 1)) : Nat) = V.int (t.idx p : Nat))) = false := by
      refine decide_eq_false fun z => ?_
      have z2 : t.idx (q.take (m - 1)) = t.idx p := by
        injection z with z
        omega
      have z3 := congrArg List.length (idx_inj (take_ad hq (m - 1)) hp z2)
      rw [List.length_take] at z3
      omega
    rw [e]
    refine iteT ?_
    refine ⟨_, fun _ _ z => z, ?_⟩
    exact ⟨_, rfl, a, C, dx, _, _, rfl, hT.ob, TC.cl, TC.n1, stF_1 _ _, _, rfl, L 1, _, _, _, rfl, rfl, SqL.of (hT.ls 1 (by decide)), e1, m - 1, by omega, m - 1, rfl, rfl, rfl, by omega, by omega⟩
/-! ### the three questions with two nodes -/
def spPairQ (K : PySem.W.Frag) (C U : Addr) (z1 z2 : Str) (R : Dt → Ad → Ad → VK → Hp → XK → Prop) : Sp := fun vs H Q E => ∃ a x y o o' T, vs = [.ref a, x, y] ∧ Tree K H C a T ∧ NumV K H x o ∧ NumV K H y o' ∧
  (belowB (T.nodes : Nat) o = false → Out U z1 H E) ∧ (belowB (T.nodes : Nat) o = true → belowB (T.nodes : Nat) o' = false → Out U z2 H E) ∧ (∀ p q, o = some (T.idx p : Nat) → o' = some (T.idx q : Nat) → p ∈ ad T → q ∈ ad T → R T p q Q H E)
def rMeet : Dt → Ad → Ad → VK → Hp → XK → Prop := fun T p q Q H _ => Q (.int (T.idx (p.take (lcp p q)) : Nat)) H
def rLies : Dt → Ad → Ad → VK → Hp → XK → Prop := fun T p q Q H _ => Q (.bl (decide (q <+: p))) H
def rToward (U : Addr) : Dt → Ad → Ad → VK → Hp → XK → Prop := fun T p q Q H E => (∀ n, p <+: q → q[p.length]? = some n → Q (.int (n : Nat)) H) ∧ (¬ (q ≠ p ∧ p <+: q) → Out U "down" H E)
theorem ok_meet_of {f : Addr} {fd : FuncData} (F : Fun K "meet_of" "ShapeTree.meet_of" s_ShapeTree_meet_of f fd) (GN : CalX P w K mg base (L2.CX P w) 4 "need_node" ["tree", "node", "word"] (spNeedNode K C U)) (GM : CalX P w K mg base CX0 2 "meet_in" ["tree", "one", "other"] (spMeetIn K C)) :
    FnOk P w K mg base (L2.CX P w) 5 f fd ["self", "one", "other"] (spPairQ K C U "one" "other" rMeet) := by
  refine F.okX sc_ShapeTree_meet_of (fun vs H Q E h => ?_) (fun cdv A outer s H vs Q E hr h => ?_)
  · obtain ⟨a, x, y, o, o', t, rfl, _⟩ := h
    rfl
  obtain ⟨a, x, y, o, o', t, rfl, hTr, hx, hy, q1, q2, q3⟩ := h
  refine ⟨_, pss_cons (ps_expr (pe_cx GN hr (by decide) rfl (passes_call (takes_of rfl rfl rfl rfl) (fun _ _ _ _ h => h)) (pa_cons (pv 0) (pa_cons (pv 1) (pa_cons pe_str pa_nil)))))
    (pss_cons (ps_expr (pe_cx GN hr (by decide) rfl (passes_call (takes_of rfl rfl rfl rfl) (fun _ _ _ _ h => h)) (pa_cons (pv 0) (pa_cons (pv 2) (pa_cons pe_str pa_nil)))))
    (pss_one (ps_ret (pe_c0 GM hr (by decide) rfl (pa_cons (pv 0) (pa_cons (pv 1) (pa_cons (pv 2) pa_nil))))))), ?_⟩
  refine ⟨_, rfl, _, rfl, a, x, o, t, _, rfl, hTr, hx, fun e => ?_, q1⟩
  refine ⟨_, rfl, _, rfl, a, y, o', t, _, rfl, hTr, hy, fun e' => ?_, q2 e⟩
  obtain ⟨p, hp, rfl⟩ := below_ad e
  obtain ⟨q, hq, rfl⟩ := below_ad e'
  obtain rfl : x = .int (t.idx p : Nat) := hx
  obtain rfl : y = .int (t.idx q : Nat) := hy
  have r := q3 p q rfl rfl hp hq
  exact ⟨_, rfl, _, rfl, _, rfl, a, t, p, q, rfl, hTr, hp, hq, r⟩
theorem ok_lies_in {f : Addr} {fd : FuncData} (F : Fun K "lies_in" "ShapeTree.lies_in" s_ShapeTree_lies_in f fd) (GN : CalX P w K mg base (L2.CX P w) 4 "need_node" ["tree", "node", "word"] (spNeedNode K C U)) (GM : CalX P w K mg base CX0 1 "is_within" ["tree", "node", "top"] (spWithin K C)) :
    FnOk P w K mg base (L2.CX P w) 5 f fd ["self", "node", "top"] (spPairQ K C U "node" "top" rLies) := by
  refine F.okX sc_ShapeTree_lies_in (fun vs H Q E h => ?_) (fun cdv A outer s H vs Q E hr h => ?_)
  · obtain ⟨a, x, y, o, o', t, rfl, _⟩ := h
    rfl
  obtain ⟨a, x, y, o, o', t, rfl, hTr, hx, hy, q1, q2, q3⟩ := h
  refine ⟨_, pss_cons (ps_expr (pe_cx GN hr (by decide) rfl (passes_call (takes_of rfl rfl rfl rfl) (fun _ _ _ _ h => h)) (pa_cons (pv 0) (pa_cons (pv 1) (pa_cons pe_str pa_nil)))))
    (pss_cons (ps_expr (pe_cx GN hr (by decide) rfl (passes_call (takes_of rfl rfl rfl rfl) (fun _ _ _ _ h => h)) (pa_cons (pv 0) (pa_cons (pv 2) (pa_cons pe_str pa_nil)))))
    (pss_one (ps_ret (pe_c0 GM hr (by decide) rfl (pa_cons (pv 0) (pa_cons (pv 1) (pa_cons (pv 2) pa_nil))))))), ?_⟩
  refine ⟨_, rfl, _, rfl, a, x, o, t, _, rfl, hTr, hx, fun e => ?_, q1⟩
  refine ⟨_, rfl, _, rfl, a, y, o', t, _, rfl, hTr, hy, fun e' => ?_, q2 e⟩
  obtain ⟨p, hp, rfl⟩ := below_ad e
  obtain ⟨q, hq, rfl⟩ := below_ad e'
  obtain rfl : x = .int (t.idx p : Nat) := hx
  obtain rfl : y = .int (t.idx q : Nat) := hy
  have r := q3 p q rfl rfl hp hq
  exact ⟨_, rfl, _, rfl, _, rfl, a, t, q, p, rfl, hTr, hq, hp, r⟩
theorem ok_toward {f : Addr} {fd : FuncData} (F : Fun K "toward" "ShapeTree.toward" s_ShapeTree_toward f fd) (GN : CalX P w K mg base (L2.CX P w) 4 "need_node" ["tree", "node", "word"] (spNeedNode K C U)) (GM : CalX P w K mg base CX0 1 "is_within" ["tree", "node", "top"] (spWithin K C)) (GS : CalX P w K mg base CX0 1 "side_toward" ["tree", "node", "down"] (spSide K C))
    (GD : CalX P w K mg base (L2.CX P w) 3 "need" ["fits", "word"] (spNeed U)) :
    FnOk P w K mg base (L2.CX P w) 5 f fd ["self", "node", "down"] (spPairQ K C U "node" "down" (rToward U)) := by
  refine F.okX sc_ShapeTree_toward (fun vs H Q E h => ?_) (fun cdv A outer s H vs Q E hr h => ?_)
  · obtain ⟨a, x, y, o, o', t, rfl, _⟩ := h
    rfl
  obtain ⟨a, x, y, o, o', t, rfl, hTr, hx, hy, q1, q2, q3⟩ := h
  refine ⟨_, pss_cons (ps_expr (pe_cx GN hr (by decide) rfl (passes_call (takes_of rfl rfl rfl rfl) (fun _ _ _ _ h => h)) (pa_cons (pv 0) (pa_cons (pv 1) (pa_cons pe_str pa_nil)))))
    (pss_cons (ps_expr (pe_cx GN hr (by decide) rfl (passes_call (takes_of rfl rfl rfl rfl) (fun _ _ _ _ h => h)) (pa_cons (pv 0) (pa_cons (pv 2) (pa_cons pe_str pa_nil)))))
    (pss_cons (ps_expr (pe_cx GD hr (by decide) rfl (passes_call (takes_of rfl rfl rfl rfl) (fun _ _ _ _ h => h)) (pa_cons (pe_and (pe_cmpR op_ne (pv 2) (pv 1) (nomark _)) (pe_one (pe_c0 GM hr (by decide) rfl (pa_cons (pv 0) (pa_cons (pv 2) (pa_cons (pv 1) pa_nil)))))) (pa_cons pe_str pa_nil))))
    (pss_one (ps_ret (pe_c0 GS hr (by decide) rfl (pa_cons (pv 0) (pa_cons (pv 1) (pa_cons (pv 2) pa_nil)))))))), ?_⟩
  refine ⟨_, rfl, _, rfl, a, x, o, t, _, rfl, hTr, hx, fun e => ?_, q1⟩
  refine ⟨_, rfl, _, rfl, a, y, o', t, _, rfl, hTr, hy, fun e' => ?_, q2 e⟩
  obtain ⟨p, hp, rfl⟩ := below_ad e
  obtain ⟨q, hq, rfl⟩ := below_ad e'
  obtain rfl : x = .int (t.idx p : Nat) := hx
  obtain rfl : y = .int (t.idx q : Nat) := hy
  have r := q3 p q rfl rfl hp hq
  refine ⟨_, rfl, _, rfl, rfl, _, rfl, ?_⟩
  by_cases c : q = p
  · subst c
    rw [show (decide (V.int (t.idx q : Nat) = V.int (t.idx q : Nat))) = true by simp]
    refine iteF ?_
    exact ⟨_, _, rfl, (fun z => nomatch z), fun _ => r.2 (fun z => z.1 rfl)⟩
  · have e1 : (decide (V.int (t.idx q : Nat) = V.int (t.idx p : Nat))) = false := by
      refine decide_eq_false fun z => ?_
      injection z with z
      exact c (idx_inj hq hp (by omega))
    rw [e1]
    refine iteT ?_
    refine ⟨_, rfl, _, rfl, _, rfl, a, t, p, q, rfl, hTr, hp, hq, ?_⟩
    refine ⟨_, _, rfl, fun z => ?_, fun z => r.2 (fun y => ?_)⟩
    · have hpq : p <+: q := of_decide_eq_true z
      have hl : p.length < q.length := by
        obtain ⟨s', rfl⟩ := hpq
        cases s' with
        | nil => exact absurd (List.append_nil p) c
        | cons i s' => simp
      exact ⟨_, rfl, _, rfl, _, rfl, a, t, p, q, q[p.length], rfl, hTr, hq, hpq, List.getElem?_eq_getElem hl, r.1 _ hpq (List.getElem?_eq_getElem hl)⟩
    · rw [decide_eq_true y.2] at z
      exact nomatch z
end
end K19

set_option Elab.async false
set_option linter.all false
set_option maxRecDepth 100000
set_option maxHeartbeats 4000000
namespace L2
open PySem PySem.Spec PyProof.Rows
section
variable {X : Cx} {CX : CXT} {j k : Nat} {x m : Str} {ps : List Str} {sp : Sp} {E : St → XK} {p pos : Pos} {e : Expr} {es : List Expr} {t : TA} {f C : Addr} {fd : FuncData} {dvs : List V} {ds : List Value}
/-- a call whose error goes to a try of this def -/
theorem pe_cxS (c : CalX X.prog X.w X.K X.mg X.base CX k x ps sp) (hr : Room j X.A) (hk : k ≤ j) (hg : Gl X x) (hx : ∀ σ, PassesAt CX X σ (E σ)) (ha : PA X (e :: es) t)
    (hdb : (x == ("__debug__" : Str)) = false := by decide) (he : starEach (e :: es) X.env = (false, eval e X.env) :: starEach es X.env := by rfl) (hpl : (backTo pos (starEach es X.env)).any (·.1) = false := by rfl) :
    PE X (.Call (.Name x p) (e :: es) [] pos) (tCallS sp E t) := by
  obtain ⟨f, fd, F, hm, kp, b⟩ := c.ex
  exact pe_callS F (hr.mono hk) hg hm kp b hx ha hdb he hpl
def tMakeS (C : Addr) (sp : Sp) (dvs : List V) (E : St → XK) (t : TA) : TE := fun σ H Q => t σ H fun vs H1 => ∀ x dx, H1 x = none → H1 dx = none → dx ≠ x →
  sp (.ref x :: (vs ++ dvs)) (upd (upd H1 dx (.own x)) x (.ins C dx [])) (fun v H2 => v = .non ∧ Q (.ref x) H2) (E σ)
theorem pe_makeS (M : Mk X.K C f) (F : FnOk X.prog X.w X.K X.mg X.base CX k f fd ps sp) (hr : Room (k + 1) X.A) (hg : Gl X x) (hm : X.mg x = some (.ref C)) (hb : Binds X.K fd ps ds) (hd : Vals dvs ds) (hx : ∀ σ, PassesAt CX X σ (E σ))
    (ha : PA X (e :: es) t) (hdb : (x == ("__debug__" : Str)) = false := by decide) (he : starEach (e :: es) X.env = (false, eval e X.env) :: starEach es X.env := by rfl) (hpl : (backTo pos (starEach es X.env)).any (·.1) = false := by rfl) :
    PE X (.Call (.Name x p) (e :: es) [] pos) (tMakeS C sp dvs E t) := by
  refine ⟨fun pins s σ H Q I h => ?_⟩
  refine wpAny_Call_Name_kw (ld_glob I hg hm ?_ hdb)
  refine PySem.W.callWith_K (h₀ := X.base) I.ok.mod.kin M.kp (thn (ha.run pos pins s σ H _ I h) fun us s1 ⟨vs, H1, I1, r, h⟩ => ⟨I1.kIn, ?_⟩) he hpl
  have hq := h (s1.heap.objs.size + 1) s1.heap.objs.size (I1.hok.fresh (Nat.le_succ _)) (I1.hok.fresh (Nat.le_refl _)) (Nat.ne_of_lt (Nat.lt_succ_self _))
  have I2 := Inv.made (C := C) I1
  have r2 : Vals (V.ref (s1.heap.objs.size + 1) :: (vs ++ dvs)) (Value.ref (s1.heap.objs.size + 1) :: (us ++ ds)) := .cons rfl (r.append hd)
  have hl : (Value.ref (s1.heap.objs.size + 1) :: us ++ ds).length = ps.length := by
    have e := r2.length
    rw [F.len _ _ _ _ hq] at e
    exact e.symm
  refine wpAny_call (make_map (f := f) I1.kIn M.makes M.init (beq_iff_eq.mp M.fn) (codeAny_mono (F.run _ X.stack _ _ ⟨Value.ref (s1.heap.objs.size + 1) :: us, []⟩ (Value.ref (s1.heap.objs.size + 1) :: (us ++ ds)) _ _ (E σ) (hr.make C us [])
    (I2.env0.make C us []) (hb _ (Value.ref (s1.heap.objs.size + 1) :: us) I2.kIn hl) r2 hq) fun r s' hq' => ?_))
  cases r with
  | error e => exact hx σ pins _ _ e s' I2 hq'
  | ok fl =>
    cases fl with
    | ret u =>
      obtain ⟨v, H', I3, rv, ev, q3⟩ := I2.after hq'
      subst ev
      exact ⟨rv, ⟨V.ref (s1.heap.objs.size + 1), H', I3, rfl, q3⟩⟩
    | next => exact False.elim hq'
    | brk => exact False.elim hq'
    | cont => exact False.elim hq'
end
end L2
namespace K19
open PySem PySem.Spec PyProof.Rows L2 Dt
/-- a method with all its ways of being called -/
structure MQ (P : Program) (w : World) (K : PySem.W.Frag) (mg : Str → Option Value) (base : Heap) (C : Addr) (m : Str) (ps ks : List Str) (g : {α : Type} → List α → List α) (sp : Sp) : Prop where
  ex : ∃ f fd, Meth K C m f ∧ FnOk P w K mg base (L2.CX P w) 5 f fd ps sp ∧ Binds K fd ps [] ∧ KwB fd ps ks g
section
variable {X : Cx} {j : Nat} {C : Addr} {ps ks : List Str} {sp : Sp} {E : XK} {x m : Str} {p pos apos : Pos} {o e : Expr} {es : List Expr} {kws : List Keyword} {ta : TE} {t tk : TA} {g : {α : Type} → List α → List α}
theorem pe_mq {pl : Sem Bool} (he : PE X o ta) (c : Cls X.K C) (M : MQ X.prog X.w X.K X.mg X.base C m ps ks g sp) (hr : Room j X.A) (hk : 5 ≤ j) (hx : Passes (L2.CX X.prog X.w) X E) (ha : PA X (e :: es) t)
    (hst : starEach (e :: es) X.env = (false, eval e X.env) :: starEach es X.env := by rfl) (hpl : (backTo pos (starEach es X.env)).any (·.1) = false := by rfl)
    (ht : eval (.Call (.Attribute o m apos) (e :: es) [] pos) X.env = (do
      let ov ← eval o X.env
      standAt apos.atName
      let (f, first) ← holding [ov] (getMethod ov m pl)
      callWith pos f first (backTo pos (starEach (e :: es) X.env)) (backToKw pos (keywordEach [] X.env))) := by rfl) :
    PE X (.Call (.Attribute o m apos) (e :: es) [] pos) (tMeth C m sp [] E ta t) := by
  obtain ⟨f, fd, hm, F, b, kb⟩ := M.ex
  exact pe_meth he c hm F (hr.mono hk) b .nil hx ha hst hpl ht
theorem pe_mqK {pl : Sem Bool} (he : PE X o ta) (c : Cls X.K C) (M : MQ X.prog X.w X.K X.mg X.base C m ps ks g sp) (hr : Room j X.A) (hk : 5 ≤ j) (hx : Passes (L2.CX X.prog X.w) X E) (hkw : PK X kws tk)
    (ht : eval (.Call (.Attribute o m apos) [] kws pos) X.env = (do
      let ov ← eval o X.env
      standAt apos.atName
      let (f, first) ← holding [ov] (getMethod ov m pl)
      callWith pos f first (backTo pos (starEach [] X.env)) (backToKw pos (keywordEach kws X.env))) := by rfl)
    (hall : (backToKw pos (keywordEach kws X.env)).all (·.1.isSome) = true := by rfl) (hks : (backToKw pos (keywordEach kws X.env)).filterMap (·.1) = ks := by rfl)
    (hpl : ((backTo pos (starEach [] X.env)).any (·.1) || (backToKw pos (keywordEach kws X.env)).any (·.1.isNone)) = false := by rfl) :
    PE X (.Call (.Attribute o m apos) [] kws pos) (tMethK C m sp ks.length g E ta tk) := by
  obtain ⟨f, fd, hm, F, b, kb⟩ := M.ex
  exact pe_methK he c hm F (hr.mono hk) kb hx hkw ht hall hks hpl
end
/-! ### _law_ask, _law_ask_two -/
def idL {α : Type} (l : List α) : List α := l
def revL {α : Type} (l : List α) : List α := l.reverse
/-- the class with its methods -/
structure TM (P : Program) (w : World) (K : PySem.W.Frag) (mg : Str → Option Value) (base : Heap) (C U : Addr) : Prop where
  m0 : MQ P w K mg base C "bough_of" ["self", "node"] ["node"] idL (spNodeQ K C U 0)
  m1 : MQ P w K mg base C "parent_of" ["self", "node"] ["node"] idL (spNodeQ K C U 1)
  m2 : MQ P w K mg base C "kids_of" ["self", "node"] ["node"] idL (spNodeQ K C U 2)
  m3 : MQ P w K mg base C "depth_of" ["self", "node"] ["node"] idL (spNodeQ K C U 3)
  m4 : MQ P w K mg base C "low_of" ["self", "node"] ["node"] idL (spNodeQ K C U 5)
  m5 : MQ P w K mg base C "high_of" ["self", "node"] ["node"] idL (spNodeQ K C U 6)
  m6 : MQ P w K mg base C "queue_at" ["self", "node"] ["node"] idL (spQueueAt K C U)
  m7 : MQ P w K mg base C "node_of" ["self", "queue"] ["queue"] idL (spQueueQ K C U 8)
  m8 : MQ P w K mg base C "path_of" ["self", "queue"] ["queue"] idL (spQueueQ K C U 9)
  n0 : MQ P w K mg base C "meet_of" ["self", "one", "other"] ["other", "one"] revL (spPairQ K C U "one" "other" rMeet)
  n1 : MQ P w K mg base C "lies_in" ["self", "node", "top"] ["top", "node"] revL (spPairQ K C U "node" "top" rLies)
  n2 : MQ P w K mg base C "toward" ["self", "node", "down"] ["down", "node"] revL (spPairQ K C U "node" "down" (rToward U))
/-- what the question way is answered with -/
def AnsV (K : PySem.W.Frag) (H : Hp) (T : Dt) (o : Option Int) : Nat → V → Prop
  | 0, v => ∃ p, o = some (T.idx p : Nat) ∧ p ∈ ad T ∧ Cell K H T 0 v p
  | 1, v => ∃ p, o = some (T.idx p : Nat) ∧ p ∈ ad T ∧ Cell K H T 1 v p
  | 2, v => ∃ p, o = some (T.idx p : Nat) ∧ p ∈ ad T ∧ Cell K H T 2 v p
  | 3, v => ∃ p, o = some (T.idx p : Nat) ∧ p ∈ ad T ∧ Cell K H T 3 v p
  | 4, v => ∃ p, o = some (T.idx p : Nat) ∧ p ∈ ad T ∧ Cell K H T 5 v p
  | 5, v => ∃ p, o = some (T.idx p : Nat) ∧ p ∈ ad T ∧ Cell K H T 6 v p
  | 6, v => ∃ p, o = some (T.idx p : Nat) ∧ p ∈ ad T ∧ v = if isLf T p = true then .int (T.low p : Nat) else .non
  | 7, v => ∃ (i : Nat) (p : Ad), o = some (i : Nat) ∧ (lv T)[i]? = some p ∧ Cell K H T 8 v p
  | _, v => ∃ (i : Nat) (p : Ad), o = some (i : Nat) ∧ (lv T)[i]? = some p ∧ Cell K H T 9 v p
def badO (T : Dt) (o : Option Int) (way : Nat) : Prop := (if way < 7 then belowB (T.nodes : Nat) o else belowB (T.lf : Nat) o) = false
def wordO (way : Nat) : Str := if way < 7 then "node" else "queue"
def spAsk (K : PySem.W.Frag) (C U : Addr) : Sp := fun vs H Q E => ∃ (a : Addr) (way : Nat) (x : V) (b : Bool) (o : Option Int) (T : Dt), vs = [.ref a, .int (way : Nat), x, .bl b] ∧ Tree K H C a T ∧ NumV K H x o ∧ way < 9 ∧ (∀ v, AnsV K H T o way v → Q v H) ∧ (badO T o way → Out U (wordO way) H E)
section
variable {P : Program} {w : World} {K : PySem.W.Frag} {mg : Str → Option Value} {base : Heap} {C U fG : Addr}
theorem ok_ask (D : DefAt K mg "_law_ask" s_law_ask ["tree", "way", "number", "named"]) (TC : TCl K mg C fG) (M : TM P w K mg base C U) : CalX P w K mg base (L2.CX P w) 6 "_law_ask" ["tree", "way", "number", "named"] (spAsk K C U) := by
  refine D.okX sc_law_ask (fun vs H Q E h => ?_) (fun f cdv A outer s H vs Q E hr h => ?_)
  · obtain ⟨a, way, x, b, o, t, rfl, _⟩ := h
    rfl
  obtain ⟨a, way, x, b, o, t, rfl, hTr, hx, hw, q1, q2⟩ := h
  obtain ⟨dx, fv, L, S, hT, _⟩ := id hTr
  refine ⟨_, (pss_cons (ps_if (pt_cmpR op_eq (pv 1) pe_int (nomark _)) (pss_one (ps_ret (pe_ifExp (pt_val (pv 3)) (pe_mqK (pv 0) TC.cl M.m0 hr (by decide) (passes_call (takes_of rfl rfl rfl rfl) (fun _ _ _ _ h => h)) (pk_cons (pv 2) pk_nil)) (pe_mq (pv 0) TC.cl M.m0 hr (by decide) (passes_call (takes_of rfl rfl rfl rfl) (fun _ _ _ _ h => h)) (pa_cons (pv 2) pa_nil))))) pss_nil)
    (pss_cons (ps_if (pt_cmpR op_eq (pv 1) pe_int (nomark _)) (pss_one (ps_ret (pe_ifExp (pt_val (pv 3)) (pe_mqK (pv 0) TC.cl M.m1 hr (by decide) (passes_call (takes_of rfl rfl rfl rfl) (fun _ _ _ _ h => h)) (pk_cons (pv 2) pk_nil)) (pe_mq (pv 0) TC.cl M.m1 hr (by decide) (passes_call (takes_of rfl rfl rfl rfl) (fun _ _ _ _ h => h)) (pa_cons (pv 2) pa_nil))))) pss_nil)
    (pss_cons (ps_if (pt_cmpR op_eq (pv 1) pe_int (nomark _)) (pss_one (ps_ret (pe_ifExp (pt_val (pv 3)) (pe_mqK (pv 0) TC.cl M.m2 hr (by decide) (passes_call (takes_of rfl rfl rfl rfl) (fun _ _ _ _ h => h)) (pk_cons (pv 2) pk_nil)) (pe_mq (pv 0) TC.cl M.m2 hr (by decide) (passes_call (takes_of rfl rfl rfl rfl) (fun _ _ _ _ h => h)) (pa_cons (pv 2) pa_nil))))) pss_nil)
    (pss_cons (ps_if (pt_cmpR op_eq (pv 1) pe_int (nomark _)) (pss_one (ps_ret (pe_ifExp (pt_val (pv 3)) (pe_mqK (pv 0) TC.cl M.m3 hr (by decide) (passes_call (takes_of rfl rfl rfl rfl) (fun _ _ _ _ h => h)) (pk_cons (pv 2) pk_nil)) (pe_mq (pv 0) TC.cl M.m3 hr (by decide) (passes_call (takes_of rfl rfl rfl rfl) (fun _ _ _ _ h => h)) (pa_cons (pv 2) pa_nil))))) pss_nil)
    (pss_cons (ps_if (pt_cmpR op_eq (pv 1) pe_int (nomark _)) (pss_one (ps_ret (pe_ifExp (pt_val (pv 3)) (pe_mqK (pv 0) TC.cl M.m4 hr (by decide) (passes_call (takes_of rfl rfl rfl rfl) (fun _ _ _ _ h => h)) (pk_cons (pv 2) pk_nil)) (pe_mq (pv 0) TC.cl M.m4 hr (by decide) (passes_call (takes_of rfl rfl rfl rfl) (fun _ _ _ _ h => h)) (pa_cons (pv 2) pa_nil))))) pss_nil)
    (pss_cons (ps_if (pt_cmpR op_eq (pv 1) pe_int (nomark _)) (pss_one (ps_ret (pe_ifExp (pt_val (pv 3)) (pe_mqK (pv 0) TC.cl M.m5 hr (by decide) (passes_call (takes_of rfl rfl rfl rfl) (fun _ _ _ _ h => h)) (pk_cons (pv 2) pk_nil)) (pe_mq (pv 0) TC.cl M.m5 hr (by decide) (passes_call (takes_of rfl rfl rfl rfl) (fun _ _ _ _ h => h)) (pa_cons (pv 2) pa_nil))))) pss_nil)
    (pss_cons (ps_if (pt_cmpR op_eq (pv 1) pe_int (nomark _)) (pss_one (ps_ret (pe_ifExp (pt_val (pv 3)) (pe_mqK (pv 0) TC.cl M.m6 hr (by decide) (passes_call (takes_of rfl rfl rfl rfl) (fun _ _ _ _ h => h)) (pk_cons (pv 2) pk_nil)) (pe_mq (pv 0) TC.cl M.m6 hr (by decide) (passes_call (takes_of rfl rfl rfl rfl) (fun _ _ _ _ h => h)) (pa_cons (pv 2) pa_nil))))) pss_nil)
    (pss_cons (ps_if (pt_cmpR op_eq (pv 1) pe_int (nomark _)) (pss_one (ps_ret (pe_ifExp (pt_val (pv 3)) (pe_mqK (pv 0) TC.cl M.m7 hr (by decide) (passes_call (takes_of rfl rfl rfl rfl) (fun _ _ _ _ h => h)) (pk_cons (pv 2) pk_nil)) (pe_mq (pv 0) TC.cl M.m7 hr (by decide) (passes_call (takes_of rfl rfl rfl rfl) (fun _ _ _ _ h => h)) (pa_cons (pv 2) pa_nil))))) pss_nil)
    (pss_one (ps_ret (pe_ifExp (pt_val (pv 3)) (pe_mqK (pv 0) TC.cl M.m8 hr (by decide) (passes_call (takes_of rfl rfl rfl rfl) (fun _ _ _ _ h => h)) (pk_cons (pv 2) pk_nil)) (pe_mq (pv 0) TC.cl M.m8 hr (by decide) (passes_call (takes_of rfl rfl rfl rfl) (fun _ _ _ _ h => h)) (pa_cons (pv 2) pa_nil))))))))))))), ?_⟩
  match way, hw, q1, q2 with
  | 0, _, q1, q2 =>
    refine ⟨_, rfl, rfl, _, rfl, ?_⟩
    refine iteT ?_
    refine ⟨_, rfl, b, rfl, ?_⟩
    cases b with
    | true =>
      refine iteT ?_
      exact ⟨_, rfl, a, dx, _, rfl, hT.ob, rfl, _, rfl, rfl, a, x, o, t, rfl, hTr, hx, (fun p v e1 e2 e3 => q1 v ⟨p, e1, e2, e3⟩), q2⟩
    | false =>
      refine iteF ?_
      exact ⟨_, rfl, a, dx, _, rfl, hT.ob, rfl, _, rfl, a, x, o, t, rfl, hTr, hx, (fun p v e1 e2 e3 => q1 v ⟨p, e1, e2, e3⟩), q2⟩
  | 1, _, q1, q2 =>
    refine ⟨_, rfl, rfl, _, rfl, ?_⟩
    refine iteF ?_
    refine ⟨_, rfl, rfl, _, rfl, ?_⟩
    refine iteT ?_
    refine ⟨_, rfl, b, rfl, ?_⟩
    cases b with
    | true =>
      refine iteT ?_
      exact ⟨_, rfl, a, dx, _, rfl, hT.ob, rfl, _, rfl, rfl, a, x, o, t, rfl, hTr, hx, (fun p v e1 e2 e3 => q1 v ⟨p, e1, e2, e3⟩), q2⟩
    | false =>
      refine iteF ?_
      exact ⟨_, rfl, a, dx, _, rfl, hT.ob, rfl, _, rfl, a, x, o, t, rfl, hTr, hx, (fun p v e1 e2 e3 => q1 v ⟨p, e1, e2, e3⟩), q2⟩
  | 2, _, q1, q2 =>
    refine ⟨_, rfl, rfl, _, rfl, ?_⟩
    refine iteF ?_
    refine ⟨_, rfl, rfl, _, rfl, ?_⟩
    refine iteF ?_
    refine ⟨_, rfl, rfl, _, rfl, ?_⟩
    refine iteT ?_
    refine ⟨_, rfl, b, rfl, ?_⟩
    cases b with
    | true =>
      refine iteT ?_
      exact ⟨_, rfl, a, dx, _, rfl, hT.ob, rfl, _, rfl, rfl, a, x, o, t, rfl, hTr, hx, (fun p v e1 e2 e3 => q1 v ⟨p, e1, e2, e3⟩), q2⟩
    | false =>
      refine iteF ?_
      exact ⟨_, rfl, a, dx, _, rfl, hT.ob, rfl, _, rfl, a, x, o, t, rfl, hTr, hx, (fun p v e1 e2 e3 => q1 v ⟨p, e1, e2, e3⟩), q2⟩
  | 3, _, q1, q2 =>
    refine ⟨_, rfl, rfl, _, rfl, ?_⟩
    refine iteF ?_
    refine ⟨_, rfl, rfl, _, rfl, ?_⟩
    refine iteF ?_
    refine ⟨_, rfl, rfl, _, rfl, ?_⟩
    refine iteF ?_
    refine ⟨_, rfl, rfl, _, rfl, ?_⟩
    refine iteT ?_
    refine ⟨_, rfl, b, rfl, ?_⟩
    cases b with
    | true =>
      refine iteT ?_
      exact ⟨_, rfl, a, dx, _, rfl, hT.ob, rfl, _, rfl, rfl, a, x, o, t, rfl, hTr, hx, (fun p v e1 e2 e3 => q1 v ⟨p, e1, e2, e3⟩), q2⟩
    | false =>
      refine iteF ?_
      exact ⟨_, rfl, a, dx, _, rfl, hT.ob, rfl, _, rfl, a, x, o, t, rfl, hTr, hx, (fun p v e1 e2 e3 => q1 v ⟨p, e1, e2, e3⟩), q2⟩
  | 4, _, q1, q2 =>
    refine ⟨_, rfl, rfl, _, rfl, ?_⟩
    refine iteF ?_
    refine ⟨_, rfl, rfl, _, rfl, ?_⟩
    refine iteF ?_
    refine ⟨_, rfl, rfl, _, rfl, ?_⟩
    refine iteF ?_
    refine ⟨_, rfl, rfl, _, rfl, ?_⟩
    refine iteF ?_
    refine ⟨_, rfl, rfl, _, rfl, ?_⟩
    refine iteT ?_
    refine ⟨_, rfl, b, rfl, ?_⟩
    cases b with
    | true =>
      refine iteT ?_
      exact ⟨_, rfl, a, dx, _, rfl, hT.ob, rfl, _, rfl, rfl, a, x, o, t, rfl, hTr, hx, (fun p v e1 e2 e3 => q1 v ⟨p, e1, e2, e3⟩), q2⟩
    | false =>
      refine iteF ?_
      exact ⟨_, rfl, a, dx, _, rfl, hT.ob, rfl, _, rfl, a, x, o, t, rfl, hTr, hx, (fun p v e1 e2 e3 => q1 v ⟨p, e1, e2, e3⟩), q2⟩
  | 5, _, q1, q2 =>
    refine ⟨_, rfl, rfl, _, rfl, ?_⟩
    refine iteF ?_
    refine ⟨_, rfl, rfl, _, rfl, ?_⟩
    refine iteF ?_
    refine ⟨_, rfl, rfl, _, rfl, ?_⟩
    refine iteF ?_
    refine ⟨_, rfl, rfl, _, rfl, ?_⟩
    refine iteF ?_
    refine ⟨_, rfl, rfl, _, rfl, ?_⟩
    refine iteF ?_
    refine ⟨_, rfl, rfl, _, rfl, ?_⟩
    refine iteT ?_
    refine ⟨_, rfl, b, rfl, ?_⟩
    cases b with
    | true =>
      refine iteT ?_
      exact ⟨_, rfl, a, dx, _, rfl, hT.ob, rfl, _, rfl, rfl, a, x, o, t, rfl, hTr, hx, (fun p v e1 e2 e3 => q1 v ⟨p, e1, e2, e3⟩), q2⟩
    | false =>
      refine iteF ?_
      exact ⟨_, rfl, a, dx, _, rfl, hT.ob, rfl, _, rfl, a, x, o, t, rfl, hTr, hx, (fun p v e1 e2 e3 => q1 v ⟨p, e1, e2, e3⟩), q2⟩
  | 6, _, q1, q2 =>
    refine ⟨_, rfl, rfl, _, rfl, ?_⟩
    refine iteF ?_
    refine ⟨_, rfl, rfl, _, rfl, ?_⟩
    refine iteF ?_
    refine ⟨_, rfl, rfl, _, rfl, ?_⟩
    refine iteF ?_
    refine ⟨_, rfl, rfl, _, rfl, ?_⟩
    refine iteF ?_
    refine ⟨_, rfl, rfl, _, rfl, ?_⟩
    refine iteF ?_
    refine ⟨_, rfl, rfl, _, rfl, ?_⟩
    refine iteF ?_
    refine ⟨_, rfl, rfl, _, rfl, ?_⟩
    refine iteT ?_
    refine ⟨_, rfl, b, rfl, ?_⟩
    cases b with
    | true =>
      refine iteT ?_
      exact ⟨_, rfl, a, dx, _, rfl, hT.ob, rfl, _, rfl, rfl, a, x, o, t, rfl, hTr, hx, (fun p e1 e2 => q1 _ ⟨p, e1, e2, rfl⟩), q2⟩
    | false =>
      refine iteF ?_
      exact ⟨_, rfl, a, dx, _, rfl, hT.ob, rfl, _, rfl, a, x, o, t, rfl, hTr, hx, (fun p e1 e2 => q1 _ ⟨p, e1, e2, rfl⟩), q2⟩
  | 7, _, q1, q2 =>
    refine ⟨_, rfl, rfl, _, rfl, ?_⟩
    refine iteF ?_
    refine ⟨_, rfl, rfl, _, rfl, ?_⟩
    refine iteF ?_
    refine ⟨_, rfl, rfl, _, rfl, ?_⟩
    refine iteF ?_
    refine ⟨_, rfl, rfl, _, rfl, ?_⟩
    refine iteF ?_
    refine ⟨_, rfl, rfl, _, rfl, ?_⟩
    refine iteF ?_
    refine ⟨_, rfl, rfl, _, rfl, ?_⟩
    refine iteF ?_
    refine ⟨_, rfl, rfl, _, rfl, ?_⟩
    refine iteF ?_
    refine ⟨_, rfl, rfl, _, rfl, ?_⟩
    refine iteT ?_
    refine ⟨_, rfl, b, rfl, ?_⟩
    cases b with
    | true =>
      refine iteT ?_
      exact ⟨_, rfl, a, dx, _, rfl, hT.ob, rfl, _, rfl, rfl, a, x, o, t, rfl, hTr, hx, (fun i p v e1 e2 e3 => q1 v ⟨i, p, e1, e2, e3⟩), q2⟩
    | false =>
      refine iteF ?_
      exact ⟨_, rfl, a, dx, _, rfl, hT.ob, rfl, _, rfl, a, x, o, t, rfl, hTr, hx, (fun i p v e1 e2 e3 => q1 v ⟨i, p, e1, e2, e3⟩), q2⟩
  | 8, _, q1, q2 =>
    refine ⟨_, rfl, rfl, _, rfl, ?_⟩
    refine iteF ?_
    refine ⟨_, rfl, rfl, _, rfl, ?_⟩
    refine iteF ?_
    refine ⟨_, rfl, rfl, _, rfl, ?_⟩
    refine iteF ?_
    refine ⟨_, rfl, rfl, _, rfl, ?_⟩
    refine iteF ?_
    refine ⟨_, rfl, rfl, _, rfl, ?_⟩
    refine iteF ?_
    refine ⟨_, rfl, rfl, _, rfl, ?_⟩
    refine iteF ?_
    refine ⟨_, rfl, rfl, _, rfl, ?_⟩
    refine iteF ?_
    refine ⟨_, rfl, rfl, _, rfl, ?_⟩
    refine iteF ?_
    refine ⟨_, rfl, b, rfl, ?_⟩
    cases b with
    | true =>
      refine iteT ?_
      exact ⟨_, rfl, a, dx, _, rfl, hT.ob, rfl, _, rfl, rfl, a, x, o, t, rfl, hTr, hx, (fun i p v e1 e2 e3 => q1 v ⟨i, p, e1, e2, e3⟩), q2⟩
    | false =>
      refine iteF ?_
      exact ⟨_, rfl, a, dx, _, rfl, hT.ob, rfl, _, rfl, a, x, o, t, rfl, hTr, hx, (fun i p v e1 e2 e3 => q1 v ⟨i, p, e1, e2, e3⟩), q2⟩
def word1 : Nat → Str | 0 => "one" | _ => "node"
def word2 : Nat → Str | 0 => "other" | 1 => "top" | _ => "down"
def rTwo (U : Addr) : Nat → Dt → Ad → Ad → VK → Hp → XK → Prop | 0 => rMeet | 1 => rLies | _ => rToward U
def spAskTwo (K : PySem.W.Frag) (C U : Addr) : Sp := fun vs H Q E => ∃ (a : Addr) (way : Nat) (x y : V) (b : Bool) (o o' : Option Int) (T : Dt), vs = [.ref a, .int (way : Nat), x, y, .bl b] ∧ Tree K H C a T ∧ NumV K H x o ∧ NumV K H y o' ∧ way < 3 ∧
  (belowB (T.nodes : Nat) o = false → Out U (word1 way) H E) ∧ (belowB (T.nodes : Nat) o = true → belowB (T.nodes : Nat) o' = false → Out U (word2 way) H E) ∧ (∀ p q, o = some (T.idx p : Nat) → o' = some (T.idx q : Nat) → p ∈ ad T → q ∈ ad T → rTwo U way T p q Q H E)
theorem ok_ask_two (D : DefAt K mg "_law_ask_two" s_law_ask_two ["tree", "way", "first", "second", "named"]) (TC : TCl K mg C fG) (M : TM P w K mg base C U) : CalX P w K mg base (L2.CX P w) 6 "_law_ask_two" ["tree", "way", "first", "second", "named"] (spAskTwo K C U) := by
  refine D.okX sc_law_ask_two (fun vs H Q E h => ?_) (fun f cdv A outer s H vs Q E hr h => ?_)
  · obtain ⟨a, way, x, y, b, o, o', t, rfl, _⟩ := h
    rfl
  obtain ⟨a, way, x, y, b, o, o', t, rfl, hTr, hx, hy, hw, q1, q2, q3⟩ := h
  obtain ⟨dx, fv, L, S, hT, _⟩ := id hTr
  refine ⟨_, (pss_cons (ps_if (pt_cmpR op_eq (pv 1) pe_int (nomark _)) (pss_one (ps_ret (pe_ifExp (pt_val (pv 4)) (pe_mqK (pv 0) TC.cl M.n0 hr (by decide) (passes_call (takes_of rfl rfl rfl rfl) (fun _ _ _ _ h => h)) (pk_cons (pv 3) (pk_cons (pv 2) pk_nil))) (pe_mq (pv 0) TC.cl M.n0 hr (by decide) (passes_call (takes_of rfl rfl rfl rfl) (fun _ _ _ _ h => h)) (pa_cons (pv 2) (pa_cons (pv 3) pa_nil)))))) pss_nil)
    (pss_cons (ps_if (pt_cmpR op_eq (pv 1) pe_int (nomark _)) (pss_one (ps_ret (pe_ifExp (pt_val (pv 4)) (pe_mqK (pv 0) TC.cl M.n1 hr (by decide) (passes_call (takes_of rfl rfl rfl rfl) (fun _ _ _ _ h => h)) (pk_cons (pv 3) (pk_cons (pv 2) pk_nil))) (pe_mq (pv 0) TC.cl M.n1 hr (by decide) (passes_call (takes_of rfl rfl rfl rfl) (fun _ _ _ _ h => h)) (pa_cons (pv 2) (pa_cons (pv 3) pa_nil)))))) pss_nil)
    (pss_one (ps_ret (pe_ifExp (pt_val (pv 4)) (pe_mqK (pv 0) TC.cl M.n2 hr (by decide) (passes_call (takes_of rfl rfl rfl rfl) (fun _ _ _ _ h => h)) (pk_cons (pv 3) (pk_cons (pv 2) pk_nil))) (pe_mq (pv 0) TC.cl M.n2 hr (by decide) (passes_call (takes_of rfl rfl rfl rfl) (fun _ _ _ _ h => h)) (pa_cons (pv 2) (pa_cons (pv 3) pa_nil)))))))), ?_⟩
  match way, hw, q1, q2, q3 with
  | 0, _, q1, q2, q3 =>
    refine ⟨_, rfl, rfl, _, rfl, ?_⟩
    refine iteT ?_
    refine ⟨_, rfl, b, rfl, ?_⟩
    cases b with
    | true =>
      refine iteT ?_
      exact ⟨_, rfl, a, dx, _, rfl, hT.ob, rfl, _, rfl, _, rfl, rfl, a, x, y, o, o', t, rfl, hTr, hx, hy, q1, q2, q3⟩
    | false =>
      refine iteF ?_
      exact ⟨_, rfl, a, dx, _, rfl, hT.ob, rfl, _, rfl, _, rfl, a, x, y, o, o', t, rfl, hTr, hx, hy, q1, q2, q3⟩
  | 1, _, q1, q2, q3 =>
    refine ⟨_, rfl, rfl, _, rfl, ?_⟩
    refine iteF ?_
    refine ⟨_, rfl, rfl, _, rfl, ?_⟩
    refine iteT ?_
    refine ⟨_, rfl, b, rfl, ?_⟩
    cases b with
    | true =>
      refine iteT ?_
      exact ⟨_, rfl, a, dx, _, rfl, hT.ob, rfl, _, rfl, _, rfl, rfl, a, x, y, o, o', t, rfl, hTr, hx, hy, q1, q2, q3⟩
    | false =>
      refine iteF ?_
      exact ⟨_, rfl, a, dx, _, rfl, hT.ob, rfl, _, rfl, _, rfl, a, x, y, o, o', t, rfl, hTr, hx, hy, q1, q2, q3⟩
  | 2, _, q1, q2, q3 =>
    refine ⟨_, rfl, rfl, _, rfl, ?_⟩
    refine iteF ?_
    refine ⟨_, rfl, rfl, _, rfl, ?_⟩
    refine iteF ?_
    refine ⟨_, rfl, b, rfl, ?_⟩
    cases b with
    | true =>
      refine iteT ?_
      exact ⟨_, rfl, a, dx, _, rfl, hT.ob, rfl, _, rfl, _, rfl, rfl, a, x, y, o, o', t, rfl, hTr, hx, hy, q1, q2, q3⟩
    | false =>
      refine iteF ?_
      exact ⟨_, rfl, a, dx, _, rfl, hT.ob, rfl, _, rfl, _, rfl, a, x, y, o, o', t, rfl, hTr, hx, hy, q1, q2, q3⟩
/-! ### _law_told -/
def Told (Q : VK) : VK := fun v H => ∀ r H', Same H H' → H' r = some (.tup [.str "told", v]) → Q (.ref r) H'
def Refd (Q : VK) (z : Str) (H : Hp) : Prop := ∀ r H', Same H H' → H' r = some (.tup [.str "refused", .str z, .int (-1)]) → Q (.ref r) H'
def rTold : Nat → Dt → Ad → Ad → VK → Hp → Prop
  | 0, T, p, q, Q, H => Told Q (.int (T.idx (p.take (lcp p q)) : Nat)) H
  | 1, _, p, q, Q, H => Told Q (.bl (decide (q <+: p))) H
  | _, _, p, q, Q, H => (∀ n, p <+: q → q[p.length]? = some n → Told Q (.int (n : Nat)) H) ∧ (¬ (q ≠ p ∧ p <+: q) → Refd Q "down" H)
def spTold (K : PySem.W.Frag) (C U : Addr) : Sp := fun vs H Q E => ∃ (a : Addr) (way : Nat) (x y : V) (b : Bool) (o o' : Option Int) (T : Dt), vs = [.ref a, .int (way : Nat), x, y, .bl b] ∧ Tree K H C a T ∧ NumV K H x o ∧ NumV K H y o' ∧ way < 12 ∧
  (way < 9 → (∀ v, AnsV K H T o way v → Told Q v H) ∧ (badO T o way → Refd Q (wordO way) H)) ∧
  (9 ≤ way → (belowB (T.nodes : Nat) o = false → Refd Q (word1 (way - 9)) H) ∧ (belowB (T.nodes : Nat) o = true → belowB (T.nodes : Nat) o' = false → Refd Q (word2 (way - 9)) H) ∧ (∀ p q, o = some (T.idx p : Nat) → o' = some (T.idx q : Nat) → p ∈ ad T → q ∈ ad T → rTold (way - 9) T p q Q H))
theorem ok_told {fI : Addr} (D : DefAt K mg "_law_told" s_law_told ["tree", "way", "first", "second", "named"]) (N : NUT K mg U fI) (G1 : CalX P w K mg base (L2.CX P w) 6 "_law_ask" ["tree", "way", "number", "named"] (spAsk K C U))
    (G2 : CalX P w K mg base (L2.CX P w) 6 "_law_ask_two" ["tree", "way", "first", "second", "named"] (spAskTwo K C U)) : CalX P w K mg base CX0 7 "_law_told" ["tree", "way", "first", "second", "named"] (spTold K C U) := by
  refine D.ok sc_law_told (fun vs H Q E h => ?_) (fun f cdv A outer s H vs Q E hr h => ?_)
  · obtain ⟨a, way, x, y, b, o, o', t, rfl, _⟩ := h
    rfl
  obtain ⟨a, way, x, y, b, o, o', t, rfl, hTr, hx, hy, hw, q1, q2⟩ := h
  refine ⟨_, pss_one (ps_try_as2 (i := 5) rfl rfl sc_law_told.nd rfl rfl ⟨rfl, by decide, Or.inl N.gU⟩
    (fun W pn xe tk _ => pss_cons (ps_if (pt_cmpR op_lt (pv 1) pe_int (nomark _)) (pss_one (ps_ret (pe_tup (pa_cons pe_str (pa_cons (by exact (pe_cxS G1 hr (by decide) rfl (fun σ => passAt tk σ) (by exact (pa_cons (pv 0) (pa_cons (pv 1) (pa_cons (pv 2) (pa_cons (pv 4) pa_nil))))))) pa_nil))))) pss_nil)
      (pss_one (ps_ret (pe_tup (pa_cons pe_str (pa_cons (by exact (pe_cxS G2 hr (by decide) rfl (fun σ => passAt tk σ) (by exact (pa_cons (pv 0) (pa_cons (pe_op op_sub (pv 1) pe_int) (pa_cons (pv 2) (pa_cons (pv 3) (pa_cons (pv 4) pa_nil)))))))) pa_nil))))))
    (fun a oe cls d pn hz hf => pss_one (ps_ret (pe_tup (pa_cons pe_str (pa_cons (pe_xf N.xf N.nw hz hf (pv 5)) (pa_cons (pe_xf N.xf N.na hz hf (pv 5)) pa_nil))))))), ?_⟩
  have err : ∀ (σ : L2.St) (z : Str), σ = [some (.ref a), some (.int (way : Nat)), some x, some y, some (.bl b), none] → Refd Q z H → ∀ d, H d = none → ∀ a0, (upd H d (xdO z (-1))) a0 = none → ∀ H2 r, H2 = upd H d (xdO z (-1)) → H2 r = none → Q (.ref r) (upd H2 r (.tup [.str "refused", .str z, .int (-1)])) := by
    rintro σ z rfl q d hd a0 ha0 H2 r rfl hr2
    exact q r _ ((same_new hd).trans (same_new hr2)) upd_same
  have tld : ∀ v, Told Q v H → ∀ r, H r = none → Q (.ref r) (upd H r (.tup [.str "told", v])) := fun v q r hr2 => q r _ (same_new hr2) upd_same
  refine ⟨_, rfl, _, _, rfl, rfl, _, rfl, ?_⟩
  refine ite2 (fun c => ?_) (fun c => ?_)
  · have c' : ((way : Nat) : Int) < 9 := of_decide_eq_true c
    obtain ⟨r1, r2⟩ := q1 (by omega)
    refine ⟨_, rfl, _, rfl, _, rfl, _, rfl, a, way, x, b, o, t, rfl, hTr, hx, by omega, fun v hv => ?_, fun bd => ?_⟩
    · exact ⟨(by show 2 ≤ sizeLine; decide), fun r hr2 => tld v (r1 v hv) r hr2⟩
    · intro d hd
      refine ⟨N.te, fun a0 ha0 => ?_⟩
      refine ⟨_, rfl, rfl, rfl, d, _, _, rfl, upd_same, rfl, _, rfl, rfl, rfl, d, _, _, rfl, upd_same, rfl, (by show 3 ≤ sizeLine; decide), fun r hr2 => ?_⟩
      exact err _ _ rfl (r2 bd) d hd a0 ha0 _ r rfl hr2
  · have c' : ¬ ((way : Nat) : Int) < 9 := fun z => c (decide_eq_true z)
    obtain ⟨r1, r2, r3⟩ := q2 (by omega)
    refine ⟨_, rfl, _, rfl, _, _, rfl, rfl, _, rfl, _, rfl, _, rfl, ?_⟩
    refine ⟨a, way - 9, x, y, b, o, o', t, ?_, hTr, hx, hy, by omega, fun z => ?_, fun z z2 => ?_, fun p q e1 e2 hp hq => ?_⟩
    · have : ((way : Nat) : Int) - 9 = ((way - 9 : Nat) : Int) := by omega
      exact congrArg (fun i => [V.ref a, V.int i, x, y, V.bl b]) this
    · intro d hd
      refine ⟨N.te, fun a0 ha0 => ?_⟩
      refine ⟨_, rfl, rfl, rfl, d, _, _, rfl, upd_same, rfl, _, rfl, rfl, rfl, d, _, _, rfl, upd_same, rfl, (by show 3 ≤ sizeLine; decide), fun r hr2 => ?_⟩
      exact err _ _ rfl (r1 z) d hd a0 ha0 _ r rfl hr2
    · intro d hd
      refine ⟨N.te, fun a0 ha0 => ?_⟩
      refine ⟨_, rfl, rfl, rfl, d, _, _, rfl, upd_same, rfl, _, rfl, rfl, rfl, d, _, _, rfl, upd_same, rfl, (by show 3 ≤ sizeLine; decide), fun r hr2 => ?_⟩
      exact err _ _ rfl (r2 z z2) d hd a0 ha0 _ r rfl hr2
    · have r4 := r3 p q e1 e2 hp hq
      have h3 : way - 9 = 0 ∨ way - 9 = 1 ∨ way - 9 = 2 := by omega
      rcases h3 with h3 | h3 | h3
      · rw [h3] at r4 ⊢
        exact ⟨(by show 2 ≤ sizeLine; decide), fun r hr2 => tld _ r4 r hr2⟩
      · rw [h3] at r4 ⊢
        exact ⟨(by show 2 ≤ sizeLine; decide), fun r hr2 => tld _ r4 r hr2⟩
      · rw [h3] at r4 ⊢
        refine ⟨fun n hpq hn => ⟨(by show 2 ≤ sizeLine; decide), fun r hr2 => tld _ (r4.1 n hpq hn) r hr2⟩, fun z => ?_⟩
        intro d hd
        refine ⟨N.te, fun a0 ha0 => ?_⟩
        refine ⟨_, rfl, rfl, rfl, d, _, _, rfl, upd_same, rfl, _, rfl, rfl, rfl, d, _, _, rfl, upd_same, rfl, (by show 3 ≤ sizeLine; decide), fun r hr2 => ?_⟩
        exact err _ _ rfl (r4.2 z) d hd a0 ha0 _ r rfl hr2
end
end K19

set_option Elab.async false
set_option linter.all false
set_option maxRecDepth 100000
set_option maxHeartbeats 4000000
namespace K19
open PySem PySem.Spec PyProof.Rows L2 Dt
/-! ### _law_same: equal data -/
def plainN : Nat → PyData → Prop
  | 0, _ => False
  | _ + 1, .none => True
  | _ + 1, .bool _ => True
  | _ + 1, .int _ => True
  | _ + 1, .str _ => True
  | n + 1, .tuple ds => ds.length ≤ 1000 ∧ ∀ d ∈ ds, plainN n d
  | _, _ => False
def kindOf : PyData → String
  | .none => "NoneType" | .bool _ => "bool" | .int _ => "int" | .str _ => "str" | .tuple _ => "tuple" | _ => "list"
theorem kind_dp {K : PySem.W.Frag} {H : Hp} {v : V} {d : PyData} {n : Nat} (h : Dp K H v d) (p : plainN n d) : KindV K H v (kindOf d) := by
  cases n with
  | zero => exact False.elim p
  | succ n =>
    cases h with
    | non => exact kind_non
    | bl b => exact kind_bl b
    | int i => exact kind_int i
    | str s => exact kind_str s
    | lst _ _ => exact False.elim p
    | tup h _ => exact kind_sqt h
mutual
theorem dp_same {K : PySem.W.Frag} {H H' : Hp} (e : Same H H') : ∀ {v : V} {d : PyData}, Dp K H v d → Dp K H' v d
  | _, _, .non => .non
  | _, _, .bl b => .bl b
  | _, _, .int i => .int i
  | _, _, .str z => .str z
  | _, _, .lst h q => .lst (e.seq h) (dps_same e q)
  | _, _, .tup h q => .tup (same_sqt e h) (dps_same e q)
theorem dps_same {K : PySem.W.Frag} {H H' : Hp} (e : Same H H') : ∀ {v : List V} {d : List PyData}, DpAll K H v d → DpAll K H' v d
  | _, _, .nil => .nil
  | _, _, .cons h q => .cons (dp_same e h) (dps_same e q)
end
theorem dps_at {K : PySem.W.Frag} {H : Hp} : ∀ {vs : List V} {ds : List PyData}, DpAll K H vs ds → ∀ {i : Nat} {d : PyData}, ds[i]? = some d → ∃ v, vs[i]? = some v ∧ Dp K H v d
  | _, _, .nil, i, d, h => by simp at h
  | _, _, .cons h q, 0, d, e => by
    obtain rfl := Option.some.inj e
    exact ⟨_, rfl, h⟩
  | _, _, .cons h q, i + 1, d, e => dps_at q (i := i) (d := d) (by simpa using e)
theorem dps_len {K : PySem.W.Frag} {H : Hp} : ∀ {vs : List V} {ds : List PyData}, DpAll K H vs ds → vs.length = ds.length
  | _, _, .nil => rfl
  | _, _, .cons h q => congrArg (· + 1) (dps_len q)
def spSame (K : PySem.W.Frag) (n : Nat) : Sp := fun vs H Q _ => ∃ (x y : V) (d : PyData), vs = [x, y] ∧ Dp K H x d ∧ Dp K H y d ∧ plainN n d ∧ ∀ H', Same H H' → Q (.bl true) H'
section
variable {P : Program} {w : World} {K : PySem.W.Frag} {mg : Str → Option Value} {base : Heap}
theorem ok_same_step {n : Nat} (D : DefAt K mg "_law_same" s_law_same ["mine", "due"]) (T : Txt K mg) (G : CalX P w K mg base CX0 n "_law_same" ["mine", "due"] (spSame K n)) : CalX P w K mg base CX0 (n + 1) "_law_same" ["mine", "due"] (spSame K (n + 1)) := by
  refine D.ok sc_law_same (fun vs H Q E h => ?_) (fun f cdv A outer s H vs Q E hr h => ?_)
  · obtain ⟨x, y, d, rfl, _⟩ := h
    rfl
  obtain ⟨x, y, d, rfl, hx, hy, hp, q⟩ := h
  refine ⟨_, pss_cons (ps_if (PW.pt (pw_or (pt_val (pe_callB call_isi (by rfl) T.isinstance boot_isinstance (pa_cons (pv 0) (pa_cons (pe_bltn (v := .ty "bool") (by rfl) T.bool (by decide +kernel) rfl) pa_nil))))
      (pw_or1 (pt_val (pe_callB call_isi (by rfl) T.isinstance boot_isinstance (pa_cons (pv 1) (pa_cons (pe_bltn (v := .ty "bool") (by rfl) T.bool (by decide +kernel) rfl) pa_nil)))))))
      (pss_one (ps_ret (pe_and (pe_callB call_isi (by rfl) T.isinstance boot_isinstance (pa_cons (pv 0) (pa_cons (pe_bltn (v := .ty "bool") (by rfl) T.bool (by decide +kernel) rfl) pa_nil)))
        (pe_and (pe_callB call_isi (by rfl) T.isinstance boot_isinstance (pa_cons (pv 1) (pa_cons (pe_bltn (v := .ty "bool") (by rfl) T.bool (by decide +kernel) rfl) pa_nil)))
          (pe_one (pe_cmpR op_eq (pv 0) (pv 1) (nomark _))))))) pss_nil)
    (pss_cons (ps_if (PW.pt (pw_or (pt_cmpR op_isN (pv 0) pe_non (nomark _)) (pw_or1 (pt_cmpR op_isN (pv 1) pe_non (nomark _)))))
      (pss_one (ps_ret (pe_and (pe_cmpR op_isN (pv 0) pe_non (nomark _)) (pe_one (pe_cmpR op_isN (pv 1) pe_non (nomark _)))))) pss_nil)
    (pss_cons (ps_if (pt_val (pe_callB call_isi (by rfl) T.isinstance boot_isinstance (pa_cons (pv 1) (pa_cons (pe_bltn (v := .ty "tuple") (by rfl) T.tuple PyProof.Rows.boot_tuple rfl) pa_nil))))
      (pss_cons (ps_if (PW.pt (pw_or (pt_not (pt_val (pe_callB call_isi (by rfl) T.isinstance boot_isinstance (pa_cons (pv 0) (pa_cons (pe_bltn (v := .ty "tuple") (by rfl) T.tuple PyProof.Rows.boot_tuple rfl) pa_nil)))))
          (pw_or1 (pt_cmpR op_ne (pe_callB call_len_seq (by rfl) T.len PySem.boot_len (pa_cons (pv 0) pa_nil)) (pe_callB call_len_seq (by rfl) T.len PySem.boot_len (pa_cons (pv 1) pa_nil)) (nomark _))))) (pss_one (ps_ret pe_bl)) pss_nil)
      (pss_one (ps_ret (pe_callB (cr_all rfl) (by rfl) T.all (by decide +kernel) (pa_cons (pe_lc (own := [("spot", 2)]) (g := gName 2) (tt := tYes) (by rfl) sc_law_same.nd (pi_range1 rfl T.range (pa_cons (pe_callB call_len_seq (by rfl) T.len PySem.boot_len (pa_cons (pv 1) pa_nil)) pa_nil))
        (blkOk_by (own := [("spot", 2)]) (N := N_law_same) (sc := defScope s_law_same) (by decide +kernel)) (fun _ _ _ _ _ => pg_name (i := 2) sc_law_same.nd rfl (Or.inl rfl)) (fun _ _ _ _ _ => pts_nil)
        (fun _ _ _ _ _ => by exact (pe_c0 G hr (Nat.le_refl _) rfl (pa_cons (pe_ix (show IxR _ (rIxT K) from ix_tup) (pv 0) (pv 2) (fun _ _ => rfl)) (pa_cons (pe_ix (show IxR _ (rIxT K) from ix_tup) (pv 1) (pv 2) (fun _ _ => rfl)) pa_nil))))) pa_nil)))) ) pss_nil)
    (pss_cons (ps_if (pt_val (pe_callB call_isi (by rfl) T.isinstance boot_isinstance (pa_cons (pv 1) (pa_cons (pe_bltn (v := .ty "int") (by rfl) T.int boot_int rfl) pa_nil))))
      (pss_one (ps_ret (pe_and (pe_callB call_isi (by rfl) T.isinstance boot_isinstance (pa_cons (pv 0) (pa_cons (pe_bltn (v := .ty "int") (by rfl) T.int boot_int rfl) pa_nil))) (pe_one (pe_cmpR op_eq (pv 0) (pv 1) (nomark _)))))) pss_nil)
    (pss_one (ps_ret (pe_and (pe_callB call_isi (by rfl) T.isinstance boot_isinstance (pa_cons (pv 0) (pa_cons (pe_bltn (v := .ty "str") (by rfl) T.str (by decide +kernel) rfl) pa_nil)))
        (pe_and (pe_callB call_isi (by rfl) T.isinstance boot_isinstance (pa_cons (pv 1) (pa_cons (pe_bltn (v := .ty "str") (by rfl) T.str (by decide +kernel) rfl) pa_nil)))
          (pe_one (pe_cmpR op_eq (pv 0) (pv 1) (nomark _)))))))))), ?_⟩
  have kx := kind_dp hx hp
  have ky := kind_dp hy hp
  have sH : Same H H := fun _ _ z => z
  cases hx with
  | non =>
    cases hy
    refine isi_read rfl kx.1 (kit_bool kx.2) ⟨_, rfl, ?_⟩
    refine iteF ?_
    refine isi_read rfl ky.1 (kit_bool ky.2) ⟨_, rfl, ?_⟩
    refine iteF ?_
    refine ⟨_, rfl, rfl, _, rfl, ?_⟩
    refine iteT (iteT ?_)
    refine ⟨_, rfl, rfl, _, rfl, ?_⟩
    refine iteT ?_
    exact ⟨_, rfl, rfl, q H sH⟩
  | bl b =>
    cases hy
    refine isi_read rfl kx.1 (kit_bool kx.2) ⟨_, rfl, ?_⟩
    refine iteT (iteT ?_)
    refine isi_read rfl kx.1 (kit_bool kx.2) ⟨_, rfl, ?_⟩
    refine iteT ?_
    refine isi_read rfl ky.1 (kit_bool ky.2) ⟨_, rfl, ?_⟩
    refine iteT ?_
    refine ⟨_, rfl, _, rfl, rfl, ?_⟩
    have e : (decide (V.bl b = V.bl b)) = true := decide_eq_true rfl
    rw [e]
    exact q H sH
  | int i =>
    cases hy
    refine isi_read rfl kx.1 (kit_bool kx.2) ⟨_, rfl, ?_⟩
    refine iteF ?_
    refine isi_read rfl ky.1 (kit_bool ky.2) ⟨_, rfl, ?_⟩
    refine iteF ?_
    refine ⟨_, rfl, rfl, _, rfl, ?_⟩
    refine iteF ?_
    refine ⟨_, rfl, rfl, _, rfl, ?_⟩
    refine iteF ?_
    refine isi_read rfl ky.1 (kit_tup ky.2) ⟨_, rfl, ?_⟩
    refine iteF ?_
    refine isi_read rfl ky.1 (kit_int ky.2) ⟨_, rfl, ?_⟩
    refine iteT ?_
    refine isi_read rfl kx.1 (kit_int kx.2) ⟨_, rfl, ?_⟩
    refine iteT ?_
    refine ⟨_, rfl, _, rfl, rfl, ?_⟩
    have e : (decide (V.int i = V.int i)) = true := decide_eq_true rfl
    rw [e]
    exact q H sH
  | str z =>
    cases hy
    refine isi_read rfl kx.1 (kit_bool kx.2) ⟨_, rfl, ?_⟩
    refine iteF ?_
    refine isi_read rfl ky.1 (kit_bool ky.2) ⟨_, rfl, ?_⟩
    refine iteF ?_
    refine ⟨_, rfl, rfl, _, rfl, ?_⟩
    refine iteF ?_
    refine ⟨_, rfl, rfl, _, rfl, ?_⟩
    refine iteF ?_
    refine isi_read rfl ky.1 (kit_tup ky.2) ⟨_, rfl, ?_⟩
    refine iteF ?_
    refine isi_read rfl ky.1 (kit_int ky.2) ⟨_, rfl, ?_⟩
    refine iteF ?_
    refine isi_read rfl kx.1 (kit_str kx.2) ⟨_, rfl, ?_⟩
    refine iteT ?_
    refine isi_read rfl ky.1 (kit_str ky.2) ⟨_, rfl, ?_⟩
    refine iteT ?_
    refine ⟨_, rfl, _, rfl, rfl, ?_⟩
    have e : (decide (V.str z = V.str z)) = true := decide_eq_true rfl
    rw [e]
    exact q H sH
  | lst _ _ => exact False.elim hp
  | @tup a xs ds hsx hax =>
    cases hy with
    | @tup b ys _ hsy hay =>
    obtain ⟨hp1, hp2⟩ := hp
    refine isi_read rfl kx.1 (kit_bool kx.2) ⟨_, rfl, ?_⟩
    refine iteF ?_
    refine isi_read rfl ky.1 (kit_bool ky.2) ⟨_, rfl, ?_⟩
    refine iteF ?_
    refine ⟨_, rfl, rfl, _, rfl, ?_⟩
    refine iteF ?_
    refine ⟨_, rfl, rfl, _, rfl, ?_⟩
    refine iteF ?_
    refine isi_read rfl ky.1 (kit_tup ky.2) ⟨_, rfl, ?_⟩
    refine iteT ?_
    refine isi_read rfl kx.1 (kit_tup kx.2) ⟨_, rfl, ?_⟩
    refine iteF ?_
    have l1 := dps_len hax
    have l2 := dps_len hay
    refine ⟨_, rfl, a, xs, rfl, .inr hsx, _, rfl, b, ys, rfl, .inr hsy, rfl, _, rfl, ?_⟩
    rw [l1, l2]
    have e : (decide (V.int (ds.length : Nat) = V.int (ds.length : Nat))) = true := decide_eq_true rfl
    rw [e]
    refine iteF ?_
    refine ⟨_, rfl, b, ys, rfl, .inr hsy, ?_⟩
    rw [l2]
    have hsl := sizeLine_eq
    refine ⟨_, rfl, by omega, by omega, fun Dl hDl => lc_range (lo := 0) (n := ds.length) (fun i H' => Same H H' ∧ H' Dl = some (.lst ((List.replicate i true).map V.bl))) ⟨same_new hDl, upd_same⟩ ?_ ?_⟩
    · rintro i H' hi ⟨sm, hD⟩
      obtain ⟨v1, e1, d1⟩ := dps_at hax (List.getElem?_eq_getElem hi)
      obtain ⟨v2, e2, d2⟩ := dps_at hay (List.getElem?_eq_getElem hi)
      refine ⟨rfl, ?_⟩
      refine ⟨_, rfl, _, rfl, a, xs, _, _, rfl, rfl, same_sqt sm hsx, (by rw [Int.zero_add]; exact atI_nat e1), _, rfl, _, rfl, b, ys, _, _, rfl, rfl, same_sqt sm hsy, (by rw [Int.zero_add]; exact atI_nat e2), v1, v2, ds[i], rfl, dp_same sm d1, dp_same sm d2, hp2 _ (List.getElem_mem hi), fun H2 sm2 => ?_⟩
      refine ⟨_, sm2 _ _ hD, ?_, ?_, ?_⟩
      · rw [List.length_map, List.length_replicate]
        omega
      · exact same_mut (sm.trans sm2) hDl
      · rw [upd_same]
        simp [List.replicate_succ']
    · rintro H' ⟨sm, hD⟩
      refine ⟨Dl, _, rfl, SqL.of hD, ?_⟩
      have e : (List.replicate ds.length true).all id = true := by simp
      rw [e]
      exact q H' sm
theorem ok_same (D : DefAt K mg "_law_same" s_law_same ["mine", "due"]) (T : Txt K mg) : ∀ n : Nat, CalX P w K mg base CX0 n "_law_same" ["mine", "due"] (spSame K n)
  | 0 => by
    obtain ⟨f, fd, F, m, b⟩ := D.ex
    have no : ∀ vs H Q E, ¬ spSame K 0 vs H Q E := fun vs H Q E h => by
      obtain ⟨x, y, d, _, _, _, h, _⟩ := h
      exact h
    exact ⟨f, fd, ⟨fun vs H Q E h => absurd h (no vs H Q E), fun A outer s H args us vs Q E _ _ _ _ h => absurd h (no vs H Q E)⟩, m, F.kp, b⟩
  | n + 1 => ok_same_step D T (ok_same D T n)
end
end K19

set_option Elab.async false
set_option linter.all false
set_option maxRecDepth 100000
set_option maxHeartbeats 4000000
namespace L2
open PySem PySem.Spec PyProof.Rows
/-! ### a def that raises nothing, called within an except suite -/
structure RoomU (k : Nat) (A : Around) : Prop where
  dp : A.depth + 3 * k + 5 < recursionLimit
  un : A.units + 16 * k + 200 < cLine
theorem RoomU.deeper {k : Nat} {A : Around} (r : RoomU (k + 1) A) (env : Env) : RoomU k (A.deeper env) :=
  ⟨by have := r.dp; show A.depth + 1 + 3 * k + 5 < _; omega, by have := r.un; show A.units + 3 + 16 * k + 200 < _; omega⟩
theorem RoomU.depth {k : Nat} {A : Around} (r : RoomU k A) : A.depth < recursionLimit := by have := r.dp; omega
structure FnU (P : Program) (w : World) (K : PySem.W.Frag) (mg : Str → Option Value) (base : Heap) (k : Nat) (f : Addr) (fd : FuncData) (ps : List Str) (sp : Sp) : Prop where
  len : ∀ vs H Q E, sp vs H Q E → vs.length = ps.length
  run : ∀ (A : Around) (outer : List Env) (s : Shared) (H : Hp) (args : Args) (us : List Value) (vs : List V) (Q : VK) (E : XK), RoomU k A → Env0 P w K mg base A outer s H → BindsTo s fd args (ps.zip us) → Vals vs us → sp vs H Q E →
    codeAny (model P w) A (.call (.ref f) args) (CR CX0 outer P w H s Q E) s
def cxU (P : Program) (w : World) (K : PySem.W.Frag) (mg : Str → Option Value) (base : Heap) (N : List Str) (qual : Str) (scope : Scope) (f : Addr) (cd : Value) (A : Around) (outer : List Env) (s : Shared) (H : Hp) (E : XK) : Cx :=
  { cxOf CX0 P w K mg base N qual scope f cd A outer s H E with calm := false }
theorem inv_startU {P : Program} {w : World} {K : PySem.W.Frag} {mg : Str → Option Value} {base : Heap} {N ps : List Str} {qual : Str} {scope : Scope} {f : Addr} {cd : Value} {A : Around} {outer : List Env} {s s1 : Shared} {H : Hp} {E : XK} {us : List Value} {vs : List V}
    (S : FnScope N ps scope) (e0 : Env0 P w K mg base A outer s H) (hl : vs.length = ps.length) (r : Vals vs us)
    (x : InCallC s s.heap.objs.size (bindL (envOfC qual scope s.heap.objs.size f cd).kindOf (ps.zip us) fun _ => none) (cellsFrom (s.heap.objs.size + 1) scope.names []) (bindC (envOfC qual scope s.heap.objs.size f cd).kindOf (ps.zip us) fun _ => none) s1) :
    Inv (cxU P w K mg base N qual scope f cd A outer s H E) [] (L2.start N vs) H s1 := by
  have I := inv_start (CX := CX0) (E := E) (A := { A with handled := none }) S rfl ⟨e0.frames, e0.mod, e0.bs, e0.bsz, e0.funs, e0.frf, e0.hok, e0.bare⟩ hl r x
  have o := I.ok
  exact ⟨⟨o.mod, o.kind, o.glob, o.blt, o.above, o.inj, o.has, o.cab, fun z => Bool.noConfusion (show false = true from z), Around.frames_deeper e0.frames, o.stk, o.exf, o.bs, o.bsz, o.noex, o.exfs, o.funs, o.frf⟩, I.os, I.bare, I.base, I.loc, I.cell, I.free, I.freeC, I.pin, I.hok, I.len⟩
theorem fn_ofU {P : Program} {w : World} {K : PySem.W.Frag} {mg : Str → Option Value} {base : Heap} {k : Nat} {f : Addr} {name qual : Str} {params : Arguments} {body : List Stmt} {scope : Scope} {dV kV doc pm cdv ct oc : Value} {an od : Option Addr}
    {osl : Array (Option Value)} {N ps : List Str} {sp : Sp} (lk : K.lookup f = some ⟨oc, od, .func (PySem.W.fnOf name qual params body scope dV kV doc pm an cdv ct), osl⟩) (hcd : PySem.W.codeIn K cdv qual = true) (S : FnScope N ps scope)
    (len : ∀ vs H Q E, sp vs H Q E → vs.length = ps.length)
    (hbody : ∀ (A : Around) (outer : List Env) (s : Shared) (H : Hp) (vs : List V) (Q : VK) (E : XK), RoomU k (A.deeper (envOfC qual scope s.heap.objs.size f cdv)) → sp vs H Q E →
      ∃ t, PSs (cxU P w K mg base N qual scope f cdv A outer s H E) body t ∧ t { nx := fun _ H' => Q .non H', rt := Q } (L2.start N vs) H) :
    FnU P w K mg base (k + 1) f (PySem.W.fnOf name qual params body scope dV kV doc pm an cdv ct) ps sp := by
  refine ⟨len, fun A outer s H args us vs Q E hr e0 hb r hsp => ?_⟩
  have hl := len _ _ _ _ hsp
  have KX : K.In s.heap := e0.mod.kin.keeps fun b o e => (e0.bs b o e).1
  have lim : s.heap.NoLimit := e0.mod.nolimit.keeps fun b o e => (e0.bs b o e).1
  have hkind : ∀ y ∈ ps.zip us, scope.names.lookup y.1 = some .local ∨ (scope.names.lookup y.1 = some .cell ∧ ((cellsFrom (s.heap.objs.size + 1) scope.names []).lookup y.1).isSome = true) := fun ⟨n, v⟩ hy => by
    rcases S.par n (List.of_mem_zip hy).1 with q | q
    · exact .inl q
    · exact .inr ⟨q, PySem.W.cellsFrom_some _ _ _ (.inl q)⟩
  refine codeAny_call_function hr.depth (KX _ _ lk) rfl S.co S.gen rfl (PySem.W.codeRec_of KX hcd) (hb _ _ _ _ ?_)
  refine wpAny_newFunctionEnv_cells S.kind hkind fun env he s1 x => ?_
  subst he
  refine ⟨lim.keeps x.toInCall.keep, codeAny_func ?_⟩
  obtain ⟨t, ht, hq⟩ := hbody A outer s H vs Q E (hr.deeper _) hsp
  have I : Inv (cxU P w K mg base N qual scope f cdv A outer s H E) [] (L2.start N vs) H s1 := inv_startU S e0 hl r x
  refine wpAny_mono (ht.run [] s1 (L2.start N vs) H _ I hq) (fun fl s' hs => ?_) fun e s' hs => hs
  have fin : ∀ {σ' : St} {H' : Hp} {v : V} {u : Value}, Inv (cxU P w K mg base N qual scope f cdv A outer s H E) [] σ' H' s' → RelV v u → Q v H' → CE outer P w H s Q u s' :=
    fun {σ' H' v u} J rv q => ⟨v, H', J.os, J.bare, J.base, J.hok, rv, q⟩
  cases fl with
  | ret u =>
    obtain ⟨v, σ', H', J, rv, q⟩ := hs
    exact fin J rv q
  | next =>
    obtain ⟨σ', H', J, q⟩ := hs
    exact fin (v := V.non) (u := Value.none) J rfl q
  | brk =>
    obtain ⟨_, _, _, q⟩ := hs
    exact False.elim q
  | cont =>
    obtain ⟨_, _, _, q⟩ := hs
    exact False.elim q

section
variable {X : Cx} {k : Nat} {f C : Addr} {fd : FuncData} {ps : List Str} {sp : Sp} {x m : Str} {q pos apos : Pos} {e o : Expr} {es : List Expr} {ta : TE} {t : TA}
theorem pe_callU (F : FnU X.prog X.w X.K X.mg X.base k f fd ps sp) (hr : RoomU k X.A) (hg : Gl X x) (hm : X.mg x = some (.ref f)) (hk : PySem.W.keepIn X.K (.ref f) = true) (hb : Binds X.K fd ps [])
    (ha : PA X (e :: es) t) (hdb : (x == ("__debug__" : Str)) = false := by decide) (he : starEach (e :: es) X.env = (false, eval e X.env) :: starEach es X.env := by rfl) (hpl : (backTo pos (starEach es X.env)).any (·.1) = false := by rfl) :
    PE X (.Call (.Name x q) (e :: es) [] pos) (fun σ H Q => t σ H fun vs H1 => sp vs H1 Q E0) := by
  refine ⟨fun pins s σ H Q I h => ?_⟩
  refine wpAny_Call_Name_kw (ld_glob I hg hm ?_ hdb)
  refine PySem.W.callWith_K (h₀ := X.base) I.ok.mod.kin hk (thn (ha.run pos pins s σ H _ I h) fun us s1 ⟨vs, H1, I1, r, h1⟩ => ⟨I1.kIn, ?_⟩) he hpl
  have hl : us.length = ps.length := by rw [← r.length]; exact F.len _ _ _ _ h1
  have b := hb s1 us I1.kIn (by rw [List.append_nil]; exact hl)
  rw [List.append_nil] at b
  refine wpAny_call (codeAny_mono (F.run X.A X.stack s1 H1 ⟨us, []⟩ us vs Q E0 hr I1.env0 b r h1) fun r s' hq => ?_)
  cases r with
  | error e => exact pass0 pins σ H1 s1 e s' I1 hq
  | ok fl =>
    cases fl with
    | ret u => exact I1.after hq
    | next => exact False.elim hq
    | brk => exact False.elim hq
    | cont => exact False.elim hq
end
theorem pe_never {X : Cx} {e : Expr} : PE X e (fun _ _ _ => False) := ⟨fun _ _ _ _ _ _ h => False.elim h⟩
end L2
namespace K19
open PySem PySem.Spec PyProof.Rows L2 Dt
/-! ### _law_same of two integers, within an except suite -/
def spSameI : Sp := fun vs H Q _ => ∃ i j : Int, vs = [.int i, .int j] ∧ Q (.bl (decide (V.int i = V.int j))) H
section
variable {P : Program} {w : World} {K : PySem.W.Frag} {mg : Str → Option Value} {base : Heap}
theorem ok_sameI (D : DefAt K mg "_law_same" s_law_same ["mine", "due"]) (T : Txt K mg) : ∃ f fd, FnU P w K mg base 1 f fd ["mine", "due"] spSameI ∧ mg "_law_same" = some (.ref f) ∧ PySem.W.keepIn K (.ref f) = true ∧ Binds K fd ["mine", "due"] [] := by
  obtain ⟨f, fd, F, m, b⟩ := D.ex
  refine ⟨f, fd, ?_, m, F.kp, b⟩
  obtain ⟨oc, od, kV, doc, pm, an, cdv, ct, osl, rfl, lk, hcd⟩ := F.ex
  refine fn_ofU lk hcd sc_law_same (fun vs H Q E h => ?_) (fun A outer s H vs Q E hr h => ?_)
  · obtain ⟨i, j, rfl, _⟩ := h
    rfl
  obtain ⟨i, j, rfl, q⟩ := h
  refine ⟨_, pss_cons (ps_if (PW.pt (pw_or (pt_val (pe_callB call_isi (by rfl) T.isinstance boot_isinstance (pa_cons (pv 0) (pa_cons (pe_bltn (v := .ty "bool") (by rfl) T.bool (by decide +kernel) rfl) pa_nil)))) (pw_or1 (pt_val (pe_callB call_isi (by rfl) T.isinstance boot_isinstance (pa_cons (pv 1) (pa_cons (pe_bltn (v := .ty "bool") (by rfl) T.bool (by decide +kernel) rfl) pa_nil))))))) (pss_one ps_never) pss_nil)
    (pss_cons (ps_if (PW.pt (pw_or (pt_cmpR op_isN (pv 0) pe_non (nomark _)) (pw_or1 (pt_cmpR op_isN (pv 1) pe_non (nomark _))))) (pss_one ps_never) pss_nil)
    (pss_cons (ps_if (pt_val (pe_callB call_isi (by rfl) T.isinstance boot_isinstance (pa_cons (pv 1) (pa_cons (pe_bltn (v := .ty "tuple") (by rfl) T.tuple PyProof.Rows.boot_tuple rfl) pa_nil)))) (pss_cons ps_never (pss_one ps_never)) pss_nil)
    (pss_cons (ps_if (pt_val (pe_callB call_isi (by rfl) T.isinstance boot_isinstance (pa_cons (pv 1) (pa_cons (pe_bltn (v := .ty "int") (by rfl) T.int boot_int rfl) pa_nil)))) (pss_one (ps_ret (pe_and (pe_callB call_isi (by rfl) T.isinstance boot_isinstance (pa_cons (pv 0) (pa_cons (pe_bltn (v := .ty "int") (by rfl) T.int boot_int rfl) pa_nil))) (pe_one (pe_cmpR op_eq (pv 0) (pv 1) (nomark _)))))) pss_nil)
    (pss_one ps_never)))), ?_⟩
  have k := fun i => kind_int (K := K) (H := H) i
  refine isi_read rfl (k i).1 (kit_bool (k i).2) ⟨_, rfl, ?_⟩
  refine iteF ?_
  refine isi_read rfl (k j).1 (kit_bool (k j).2) ⟨_, rfl, ?_⟩
  refine iteF ?_
  refine ⟨_, rfl, rfl, _, rfl, ?_⟩
  refine iteF ?_
  refine ⟨_, rfl, rfl, _, rfl, ?_⟩
  refine iteF ?_
  refine isi_read rfl (k j).1 (kit_tup (k j).2) ⟨_, rfl, ?_⟩
  refine iteF ?_
  refine isi_read rfl (k j).1 (kit_int (k j).2) ⟨_, rfl, ?_⟩
  refine iteT ?_
  refine isi_read rfl (k i).1 (kit_int (k i).2) ⟨_, rfl, ?_⟩
  refine iteT ?_
  exact ⟨_, rfl, _, rfl, rfl, q⟩
/-! ### _law_unmade -/
def spUnmade (K : PySem.W.Frag) : Sp := fun vs H Q _ => ∃ (v : V) (t : Dt), vs = [v] ∧ DtV K H v t ∧ t.size ≤ 100000 ∧ t.good 1 = false ∧ ∀ H', Same H H' → Q (.bl true) H'
theorem ok_unmade {C U fC fI : Addr} {fdC : FuncData} (D : DefAt K mg "_law_unmade" s_law_unmade ["item"]) (T : Txt K mg) (N : NUT K mg U fI) (DS : DefAt K mg "_law_same" s_law_same ["mine", "due"]) (M : Mk K C fC) (gC : mg "ShapeTree" = some (.ref C)) (bC : Binds K fdC ["self", "form"] [])
    (FC : FnOk P w K mg base (L2.CX P w) 21 fC fdC ["self", "form"] (spInit K C U 20)) : CalX P w K mg base CX0 23 "_law_unmade" ["item"] (spUnmade K) := by
  obtain ⟨fS, fdS, GS, mS, kS, bS⟩ := ok_sameI (P := P) (w := w) (base := base) DS T
  refine D.ok sc_law_unmade (fun vs H Q E h => ?_) (fun f cdv A outer s H vs Q E hr h => ?_)
  · obtain ⟨v, t, rfl, _⟩ := h
    rfl
  obtain ⟨v, t, rfl, hv, hz, hg, q⟩ := h
  have hrU : RoomU 1 _ := ⟨(hr.mono (by decide : 1 ≤ 22)).dp, (hr.mono (by decide : 1 ≤ 22)).un⟩
  refine ⟨_, pss_one (ps_try_as2 (i := 1) rfl rfl sc_law_unmade.nd rfl rfl ⟨rfl, by decide, Or.inl N.gU⟩
    (fun W pn xe tk _ => pss_cons (ps_expr (by exact (pe_makeS M FC hr rfl gC bC .nil (fun σ => passAt tk σ) (by exact (pa_cons (pv 0) pa_nil))))) (pss_one (ps_ret pe_bl)))
    (fun a oe cls d pn hz hf => pss_one (ps_ret (pe_and (pe_callB (show CallR _ _ (rIsi K) from call_isi) (by rfl) T.isinstance boot_isinstance (pa_cons (pe_xf N.xf N.nw hz hf (pv 1)) (pa_cons (pe_bltn (v := .ty "str") (by rfl) T.str (by decide +kernel) rfl) pa_nil)))
      (pe_and (pe_cmpR op_eq (pe_xf N.xf N.nw hz hf (pv 1)) pe_str (nomark _)) (pe_one (by exact (pe_callU GS ⟨hrU.dp, hrU.un⟩ rfl mS kS bS (by exact (pa_cons (pe_xf N.xf N.na hz hf (pv 1)) (pa_cons (pe_un un_neg pe_int) pa_nil)))))))))))  , ?_⟩
  -- ShapeTree(item)
  refine ⟨_, rfl, fun x dx hx hdx hne => ?_⟩
  have s1 : Same H (upd (upd H dx (.own x)) x (.ins C dx [])) := fun b o e => by
    rw [upd_ne (ne_of_none e hx), upd_ne (ne_of_none e hdx)]
    exact e
  refine ⟨x, dx, v, t, rfl, upd_same, same_dtv s1 hv, hz, fun g => ?_, fun _ H' d sm hd => ?_⟩
  · rw [hg] at g
    exact nomatch g
  refine ⟨N.te, fun a0 ha0 => ?_⟩
  have s2 : Same H (upd H' d (xdO "form" (-1))) := (s1.trans sm).trans (same_new hd)
  -- isinstance(e.word, str) and e.word == 'form' and _law_same(e.at, -1)
  refine ⟨_, rfl, rfl, rfl, d, _, _, rfl, upd_same, rfl, ?_⟩
  have ks := kind_str (K := K) (H := upd H' d (xdO "form" (-1))) "form"
  refine ⟨_, .ty "str", .type "str", .type "str", true, rfl, .ty "str", ks.1, kit_ty (kit_str ks.2), _, rfl, ?_⟩
  refine iteT ?_
  refine ⟨_, rfl, rfl, rfl, d, _, _, rfl, upd_same, rfl, rfl, _, rfl, ?_⟩
  refine iteT ?_
  refine ⟨_, rfl, rfl, rfl, d, _, _, rfl, upd_same, rfl, 1, rfl, -1, -1, rfl, ?_⟩
  exact q _ s2
end
end K19

set_option Elab.async false
set_option linter.all false
set_option maxRecDepth 100000
set_option maxHeartbeats 4000000
namespace K19
open PySem PySem.Spec PyProof.Rows L2 Dt
/-! ### the tape -/
def Tape (H : Hp) (tp g : Addr) : Prop := tp ≠ g ∧ ∃ (gs : List Int) (t : Int), H tp = some (.lst [.ref g, .int t]) ∧ H g = some (.lst (gs.map V.int)) ∧ gs.length ≤ 1000
theorem Tape.same {H H' : Hp} {tp g : Addr} (t : Tape H tp g) (e : Same H H') : Tape H' tp g := by
  obtain ⟨h, gs, i, h1, h2, h3⟩ := t
  exact ⟨h, gs, i, e _ _ h1, e _ _ h2, h3⟩
/-- all but the tape as before -/
def But (tp g : Addr) (H H' : Hp) : Prop := ∀ y, y ≠ tp → y ≠ g → H' y = H y
def spPick : Sp := fun vs H Q _ => ∃ (tp g : Addr) (span : Nat), vs = [.ref tp, .int (span : Nat)] ∧ Tape H tp g ∧ 0 < span ∧ span ≤ 1000 ∧ ∀ H' (r : Nat), r < span → Tape H' tp g → But tp g H H' → Q (.int (r : Nat)) H'
theorem mod_nat (z : Int) {n : Nat} (h : 0 < n) : ∃ r : Nat, r < n ∧ z % (n : Int) = (r : Nat) := by
  have h1 : 0 ≤ z % (n : Int) := Int.emod_nonneg _ (by omega)
  have h2 : z % (n : Int) < (n : Int) := Int.emod_lt_of_pos _ (by omega)
  exact ⟨(z % (n : Int)).toNat, by omega, by omega⟩
section
variable {P : Program} {w : World} {K : PySem.W.Frag} {mg : Str → Option Value} {base : Heap}
theorem ok_pick (D : DefAt K mg "_law_pick" s_law_pick ["tape", "span"]) (T : Txt K mg) : CalX P w K mg base CX0 1 "_law_pick" ["tape", "span"] spPick := by
  refine D.ok sc_law_pick (fun vs H Q E h => ?_) (fun f cdv A outer s H vs Q E hr h => ?_)
  · obtain ⟨tp, g, span, rfl, _⟩ := h
    rfl
  obtain ⟨tp, g, span, rfl, ⟨hne, gs, t, h1, h2, h3⟩, hs0, hs1, q⟩ := h
  refine ⟨_, pss_cons (ps_set (i := 2) sc_law_pick.nd rfl (.inl rfl) (pe_ix ix_list (pv 0) pe_int (fun _ _ => rfl)))
    (pss_cons (ps_if (pt_truth (pv 2) (by intro _; rfl))
      (pss_cons (ps_set (i := 3) sc_law_pick.nd rfl (.inl rfl) (pe_op op_mod (pe_callTy call_int1 (by rfl) T.int boot_int (pa_cons (pe_ix ix_list (pv 2) pe_int (fun _ _ => rfl)) pa_nil)) (pv 1)))
      (pss_cons (ps_asg (pe_op op_fdiv (pe_ix ix_list (pv 2) pe_int (fun _ _ => rfl)) (pv 1)) (pg_sub (pv 2) pe_int set_list))
      (pss_cons (ps_if (pt_cmpR op_eq (pe_ix ix_list (pv 2) pe_int (fun _ _ => rfl)) pe_int (nomark _))
        (pss_one (ps_expr (pe_bm PySem.F.plainAttrs_list PySem.F.slot_list_pop PySem.F.type_list_pop mt_popAt (pv 2) (pa_cons pe_int pa_nil)))) pss_nil)
      (pss_one (ps_ret (pv 3)))))) pss_nil)
    (pss_cons (ps_asg (pe_op op_mod (pe_callTy call_int1 (by rfl) T.int boot_int (pa_cons (pe_op op_add (pe_op op_mul (pe_ix ix_list (pv 0) pe_int (fun _ _ => rfl)) pe_int) pe_int) pa_nil)) pe_int) (pg_sub (pv 0) pe_int set_list))
    (pss_one (ps_ret (pe_op op_mod (pe_callTy call_int1 (by rfl) T.int boot_int (pa_cons (pe_op op_fdiv (pe_ix ix_list (pv 0) pe_int (fun _ _ => rfl)) pe_int) pa_nil)) (pv 1)))))), ?_⟩
  refine ⟨_, rfl, tp, _, 0, .ref g, rfl, rfl, SqL.of h1, rfl, ?_⟩
  refine ⟨_, rfl, !(gs.map V.int).isEmpty, .inl ⟨_, SqL.of h2, rfl⟩, ?_⟩
  have hs2 : (0 : Int) < (span : Nat) := by omega
  cases gs with
  | nil =>
    refine iteF ?_
    refine ⟨_, rfl, tp, _, 1, .int t, rfl, rfl, SqL.of h1, rfl, _, _, rfl, rfl, .inr ⟨by decide, by decide⟩, _, _, rfl, rfl, .inl ⟨_, rfl, _, _, rfl, rfl, (show (0 : Int) < 2305843009213693951 by decide), ?_⟩⟩
    obtain ⟨t', ht⟩ : ∃ t', t' = (t * 3202034522624059733 + 4354685564936845354) % 2305843009213693951 := ⟨_, rfl⟩
    refine ⟨_, rfl, tp, _, 1, 1, rfl, rfl, h1, rfl, ?_⟩
    have e1 : (upd H tp (.lst (([V.ref g, V.int t] : List V).set 1 ((fun i j => V.int (i % j)) (t * 3202034522624059733 + 4354685564936845354) 2305843009213693951)))) = upd H tp (.lst [.ref g, .int t']) := by rw [ht]; rfl
    rw [e1]
    have hT : Tape (upd H tp (.lst [.ref g, .int t'])) tp g := ⟨hne, [], t', upd_same, by rw [upd_ne (Ne.symm hne)]; exact h2, h3⟩
    obtain ⟨r, r1, r2⟩ := mod_nat (t' / 4194304) hs0
    refine ⟨_, rfl, tp, _, 1, .int t', rfl, rfl, SqL.of upd_same, rfl, _, _, rfl, rfl, ⟨by decide, by decide⟩, .inl ⟨_, rfl, _, rfl, _, _, rfl, rfl, hs2, ?_⟩⟩
    show Q (.int (t' / 4194304 % (span : Nat))) _
    rw [r2]
    exact q _ r r1 hT fun y y1 y2 => by rw [upd_ne y1]
  | cons z gr =>
    refine iteT ?_
    refine ⟨_, rfl, g, _, 0, .int z, rfl, rfl, SqL.of h2, atI_nat (j := 0) rfl, .inl ⟨z, rfl, ?_⟩⟩
    obtain ⟨r, r1, r2⟩ := mod_nat z hs0
    refine ⟨_, rfl, _, _, rfl, rfl, hs2, ?_⟩
    -- greats[0] = greats[0] // span
    refine ⟨_, rfl, g, _, 0, .int z, rfl, rfl, SqL.of h2, atI_nat (j := 0) rfl, _, rfl, _, _, rfl, rfl, ⟨hs2, by omega⟩, ?_⟩
    refine ⟨_, rfl, g, _, 0, 0, rfl, rfl, h2, ixN_nat (j := 0) (by simp), ?_⟩
    have e1 : ((z :: gr).map V.int).set 0 (V.int (z / (span : Nat))) = (z / (span : Nat) :: gr).map V.int := rfl
    show _
    have hT : Tape (upd H g (.lst ((z / (span : Nat) :: gr).map V.int))) tp g := ⟨hne, _, t, by rw [upd_ne hne]; exact h1, upd_same, h3⟩
    refine ⟨_, rfl, g, _, 0, .int (z / (span : Nat)), rfl, rfl, SqL.of upd_same, atI_nat (j := 0) rfl, rfl, _, rfl, ?_⟩
    refine ite2 (fun c => ?_) (fun c => ?_)
    · refine ⟨_, rfl, .inl ⟨rfl, _, SqL.of upd_same⟩, g, _, 0, 0, _, rfl, rfl, upd_same, by decide, by decide, ?_, rfl, ?_⟩
      · show seqIndex? 0 (((z :: gr).map V.int).set 0 (V.int (z / (span : Nat)))).length = some 0
        rw [List.length_set, List.length_map]
        exact (ixN_seq (ixN_nat (j := 0) (by simp))).1
      refine ⟨_, rfl, ?_⟩
      show Q (.int (z % (span : Nat))) _
      rw [r2]
      refine q _ r r1 ⟨hne, gr, t, ?_, upd_same, ?_⟩ fun y y1 y2 => by rw [upd_ne y2, upd_ne y2]
      · rw [upd_ne hne, upd_ne hne]
        exact h1
      · have : (z :: gr).length = gr.length + 1 := rfl
        omega
    · refine ⟨_, rfl, ?_⟩
      show Q (.int (z % (span : Nat))) _
      rw [r2]
      exact q _ r r1 hT fun y y1 y2 => by rw [upd_ne y2]
end
end K19

set_option Elab.async false
set_option linter.all false
set_option maxRecDepth 100000
set_option maxHeartbeats 4000000
namespace K19
open PySem PySem.Spec PyProof.Rows L2 Dt
/-! ### _law_tape -/
def spTape (K : PySem.W.Frag) : Sp := fun vs H Q _ => ∃ (a : Addr) (ns : List Int), vs = [.ref a] ∧ SqL K H a (ns.map V.int) ∧ ns.length ≤ 63 ∧ ∀ H' tp g, Same H H' → Tape H' tp g → H tp = none → H g = none → Q (.ref tp) H'
/-! ### a forest of lists, with its places and depths -/
inductive LF (H : Hp) : Nat → List V → Dt → List (Addr × Nat) → Prop
  | nil (d : Nat) : LF H d [] .o []
  | cons {d : Nat} {a : Addr} {vs ws : List V} {k r : Dt} {f1 f2 : List (Addr × Nat)} (h : H a = some (.lst vs)) (p : LF H (d + 1) vs k f1) (q : LF H d ws r f2) : LF H d (.ref a :: ws) (.c k r) ((a, d) :: (f1 ++ f2))
theorem LF.frame {H H' : Hp} {d : Nat} {vs : List V} {t : Dt} {fp : List (Addr × Nat)} (h : LF H d vs t fp) : (∀ a ∈ fp.map (·.1), H' a = H a) → LF H' d vs t fp := by
  induction h with
  | nil d => exact fun _ => .nil d
  | @cons d a vs ws k r f1 f2 h p q ih1 ih2 =>
    intro e
    refine .cons ((e a (by simp)).trans h) (ih1 fun b hb => e b ?_) (ih2 fun b hb => e b ?_)
    · simp only [List.map_cons, List.map_append, List.mem_cons, List.mem_append]
      exact .inr (.inl hb)
    · simp only [List.map_cons, List.map_append, List.mem_cons, List.mem_append]
      exact .inr (.inr hb)
theorem LF.len {H : Hp} {d : Nat} {vs : List V} {t : Dt} {fp : List (Addr × Nat)} (h : LF H d vs t fp) : vs.length = t.len ∧ fp.length + 1 = t.nodes := by
  induction h with
  | nil d => exact ⟨rfl, rfl⟩
  | @cons d a vs ws k r f1 f2 h p q ih1 ih2 =>
    refine ⟨congrArg (· + 1) ih2.1, ?_⟩
    show (f1 ++ f2).length + 1 + 1 = k.nodes + r.nodes
    rw [List.length_append]
    have := ih1.2
    have := ih2.2
    omega
theorem LF.is {H : Hp} {d : Nat} {vs : List V} {t : Dt} {fp : List (Addr × Nat)} (h : LF H d vs t fp) : (∀ a ∈ fp.map (·.1), ∃ xs, H a = some (.lst xs)) ∧ t.isx = false := by
  induction h with
  | nil d => exact ⟨(fun a h => by simp at h), rfl⟩
  | @cons d a vs ws k r f1 f2 h p q ih1 ih2 =>
    refine ⟨fun b hb => ?_, rfl⟩
    simp only [List.map_cons, List.map_append, List.mem_cons, List.mem_append] at hb
    rcases hb with rfl | hb | hb
    · exact ⟨_, h⟩
    · exact ih1.1 b hb
    · exact ih2.1 b hb
theorem LF.ht {H : Hp} {d B : Nat} {vs : List V} {t : Dt} {fp : List (Addr × Nat)} (h : LF H d vs t fp) : (∀ q ∈ fp, q.2 ≤ B) → d ≤ B + 1 → t.ht + d ≤ B + 1 := by
  induction h with
  | nil d => intro _ h; simpa [Dt.ht] using h
  | @cons d a vs ws k r f1 f2 h p q ih1 ih2 =>
    intro e hd
    have e0 := e (a, d) (by simp)
    have h1 := ih1 (fun z hz => e z (by simp [hz])) (by omega)
    have h2 := ih2 (fun z hz => e z (by simp [hz])) hd
    show max (k.ht + 1) r.ht + d ≤ B + 1
    omega
namespace Dt
/-- one more leaf at the end -/
def snoc : Dt → Dt | c k r => c k r.snoc | _ => c o o
theorem snoc_len : ∀ t : Dt, t.snoc.len = t.len + 1 | x => rfl | o => rfl | c _ r => congrArg (· + 1) (snoc_len r)
theorem snoc_x (t : Dt) : t.snoc.isx = false := by cases t <;> rfl
theorem snoc_deep : ∀ t : Dt, deep 1 t = true → deep 1 t.snoc = true
  | x, _ => by decide
  | o, _ => by decide
  | c k r, h => by
    have h' : (here 1 k && deep 1 k && deep 1 r) = true := h
    simp only [Bool.and_eq_true] at h'
    show (here 1 k && deep 1 k && deep 1 r.snoc) = true
    rw [h'.1.1, h'.1.2, snoc_deep r h'.2]
    rfl
theorem here_one {t : Dt} (h : t.isx = false) (h6 : t.len ≤ 6) : here 1 t = true := by
  unfold here
  rw [h, decide_eq_true h6]
  by_cases z : 0 < t.len
  · rw [decide_eq_false (show ¬ t.len < 1 by omega)]; simp
  · rw [decide_eq_false z]; simp
end Dt
theorem LF.snoc {H : Hp} {d : Nat} {k : Addr} (hk : H k = some (.lst [])) : ∀ {vs : List V} {t : Dt} {fp : List (Addr × Nat)}, LF H d vs t fp → LF H d (vs ++ [.ref k]) t.snoc (fp ++ [(k, d)])
  | _, _, _, .nil _ => .cons hk (.nil _) (.nil _)
  | _, _, _, .cons (a := a) (f1 := f1) (f2 := f2) h p q => by
    have := LF.cons h p (LF.snoc hk q)
    rw [← List.append_assoc] at this
    exact this
/-- one more leaf below b -/
theorem LF.put {H : Hp} {b k : Addr} {e : Nat} {xs : List V} (hb : H b = some (.lst xs)) (h6 : xs.length < 6) (hk : H k = none) {d : Nat} {vs : List V} {t : Dt} {fp : List (Addr × Nat)} (h : LF H d vs t fp) :
    (fp.map (·.1)).Nodup → (b, e) ∈ fp → t.deep 1 = true → ∃ t' fp', LF (upd (upd H k (.lst [])) b (.lst (xs ++ [.ref k]))) d vs t' fp' ∧ fp'.Perm (fp ++ [(k, e + 1)]) ∧ t'.deep 1 = true ∧ t'.len = t.len ∧ t'.isx = false := by
  have kb : k ≠ b := fun z => by rw [z, hb] at hk; exact nomatch hk
  induction h with
  | nil d => intro _ h; simp at h
  | @cons d a vs ws kd r f1 f2 h p q ih1 ih2 =>
    intro nd hm g
    have nd' : (a :: ((f1.map (·.1)) ++ (f2.map (·.1)))).Nodup := by simpa using nd
    obtain ⟨n1, n2⟩ := List.nodup_cons.mp nd'
    obtain ⟨n3, n4, n5⟩ := List.nodup_append.mp n2
    have na : a ∉ f1.map (·.1) ∧ a ∉ f2.map (·.1) := ⟨fun z => n1 (List.mem_append_left _ z), fun z => n1 (List.mem_append_right _ z)⟩
    have ka : k ≠ a := fun z => by rw [z, h] at hk; exact nomatch hk
    have kf1 : k ∉ f1.map (·.1) := fun z => by
      obtain ⟨ys, e⟩ := p.is.1 k z
      rw [hk] at e
      exact nomatch e
    have kf2 : k ∉ f2.map (·.1) := fun z => by
      obtain ⟨ys, e⟩ := q.is.1 k z
      rw [hk] at e
      exact nomatch e
    have fr : ∀ f : List (Addr × Nat), k ∉ f.map (·.1) → b ∉ f.map (·.1) → ∀ c ∈ f.map (·.1), (upd (upd H k (.lst [])) b (.lst (xs ++ [.ref k]))) c = H c := fun f h1 h2 c hc => by
      rw [upd_ne (show c ≠ b from fun z => h2 (by rw [← z]; exact hc)), upd_ne (show c ≠ k from fun z => h1 (by rw [← z]; exact hc))]
    have g' : (here 1 kd && deep 1 kd && deep 1 r) = true := g
    simp only [Bool.and_eq_true] at g'
    rcases List.mem_cons.mp hm with hm | hm
    · -- here
      obtain ⟨rfl, rfl⟩ : b = a ∧ e = d := by
        injection hm with z1 z2
        exact ⟨z1, z2⟩
      obtain rfl : vs = xs := by
        rw [hb] at h
        injection h with h
        injection h with h
        exact h.symm
      have p1 : LF (upd (upd H k (.lst [])) b (.lst (vs ++ [.ref k]))) (e + 1) vs kd f1 := p.frame (fr f1 kf1 na.1)
      have q1 : LF (upd (upd H k (.lst [])) b (.lst (vs ++ [.ref k]))) e ws r f2 := q.frame (fr f2 kf2 na.2)
      have p2 := p1.snoc (k := k) (by rw [upd_ne kb, upd_same])
      refine ⟨_, _, .cons upd_same p2 q1, ?_, ?_, rfl, rfl⟩
      · show ((b, e) :: ((f1 ++ [(k, e + 1)]) ++ f2)).Perm ((b, e) :: (f1 ++ f2) ++ [(k, e + 1)])
        rw [List.cons_append]
        refine List.Perm.cons _ ?_
        rw [List.append_assoc, List.append_assoc]
        exact List.Perm.append_left f1 List.perm_append_comm
      · show (here 1 kd.snoc && deep 1 kd.snoc && deep 1 r) = true
        rw [here_one (snoc_x kd) (by rw [snoc_len, ← p.len.1]; exact h6), snoc_deep kd g'.1.2, g'.2]
        rfl
    · have ba : b ≠ a := fun z => by
        rw [z] at hm
        exact n1 (by
          rcases List.mem_append.mp hm with hm | hm
          · exact List.mem_append_left _ (List.mem_map.mpr ⟨_, hm, rfl⟩)
          · exact List.mem_append_right _ (List.mem_map.mpr ⟨_, hm, rfl⟩))
      have ha : (upd (upd H k (.lst [])) b (.lst (xs ++ [.ref k]))) a = some (.lst vs) := by
        rw [upd_ne (Ne.symm ba), upd_ne (Ne.symm ka)]
        exact h
      rcases List.mem_append.mp hm with hm | hm
      · have b2 : b ∉ f2.map (·.1) := fun z => n5 b (List.mem_map.mpr ⟨_, hm, rfl⟩) b z rfl
        obtain ⟨t', fp', l1, l2, l3, l4, l5⟩ := ih1 n3 hm g'.1.2
        refine ⟨_, _, .cons ha l1 (q.frame (fr f2 kf2 b2)), ?_, ?_, rfl, rfl⟩
        · rw [List.cons_append]
          refine List.Perm.cons _ ?_
          refine (List.Perm.append_right f2 l2).trans ?_
          rw [List.append_assoc, List.append_assoc]
          exact List.Perm.append_left f1 List.perm_append_comm
        · show (here 1 t' && deep 1 t' && deep 1 r) = true
          have h7 : here 1 kd = true := g'.1.1
          have h8 : kd.len ≤ 6 := by
            unfold here at h7
            simp only [Bool.and_eq_true, decide_eq_true_eq] at h7
            exact h7.1.2
          rw [here_one l5 (by rw [l4]; exact h8), l3, g'.2]
          rfl
      · have b1 : b ∉ f1.map (·.1) := fun z => n5 b z b (List.mem_map.mpr ⟨_, hm, rfl⟩) rfl
        obtain ⟨t', fp', l1, l2, l3, l4, l5⟩ := ih2 n4 hm g'.2
        refine ⟨_, _, .cons ha (p.frame (fr f1 kf1 b1)) l1, ?_, ?_, congrArg (· + 1) l4, rfl⟩
        · rw [List.cons_append]
          refine List.Perm.cons _ ?_
          refine (List.Perm.append_left f1 l2).trans ?_
          rw [List.append_assoc]
        · show (here 1 kd && deep 1 kd && deep 1 t') = true
          rw [g'.1.1, g'.1.2, l3]
          rfl
end K19

set_option Elab.async false
set_option linter.all false
set_option maxRecDepth 100000
set_option maxHeartbeats 4000000
namespace K19
open PySem PySem.Spec PyProof.Rows L2 Dt
/-! ### _law_shut -/
theorem LF.at {H : Hp} {d : Nat} {vs : List V} {t : Dt} {fp : List (Addr × Nat)} (h : LF H d vs t fp) : ∀ (i : Nat) (v : V), vs[i]? = some v → ∃ b ys k f, v = .ref b ∧ H b = some (.lst ys) ∧ t.kids[i]? = some k ∧ LF H (d + 1) ys k f := by
  induction h with
  | nil d => intro i v h; simp at h
  | @cons d a vs ws k r f1 f2 h p q ih1 ih2 =>
    intro i v hi
    cases i with
    | zero =>
      obtain rfl : V.ref a = v := by simpa using hi
      exact ⟨a, vs, k, f1, rfl, h, rfl, p⟩
    | succ i => exact ih2 i v (by simpa using hi)
theorem LF.shf {K : PySem.W.Frag} {H H' : Hp} {d : Nat} {vs : List V} {t : Dt} {fp : List (Addr × Nat)} (h : LF H d vs t fp) : ∀ bs, Paired (ShV K H') bs t.kids → ShF K H' bs t := by
  induction h with
  | nil d =>
    intro bs hp
    cases hp
    exact .nil
  | @cons d a vs ws k r f1 f2 h p q ih1 ih2 =>
    intro bs hp
    cases hp with
    | cons h1 h2 =>
      obtain ⟨c, cs, rfl, e1, e2⟩ := h1
      exact .cons e1 e2 (ih2 _ h2)
def spShut (K : PySem.W.Frag) (n : Nat) : Sp := fun vs H Q _ => ∃ (a : Addr) (xs : List V) (t : Dt) (d : Nat) (fp : List (Addr × Nat)), vs = [.ref a] ∧ H a = some (.lst xs) ∧ LF H d xs t fp ∧ t.ht < n ∧ t.nodes ≤ 1000 ∧
  ∀ H' p bs, Same H H' → SqT K H' p bs → ShF K H' bs t → Q (.ref p) H'
section
variable {P : Program} {w : World} {K : PySem.W.Frag} {mg : Str → Option Value} {base : Heap}
theorem ok_shut_step {n : Nat} (D : DefAt K mg "_law_shut" s_law_shut ["rows"]) (T : Txt K mg) (G : CalX P w K mg base CX0 n "_law_shut" ["rows"] (spShut K n)) : CalX P w K mg base CX0 (n + 1) "_law_shut" ["rows"] (spShut K (n + 1)) := by
  refine D.ok sc_law_shut (fun vs H Q E h => ?_) (fun f cdv A outer s H vs Q E hr h => ?_)
  · obtain ⟨a, xs, t, d, fp, rfl, _⟩ := h
    rfl
  obtain ⟨a, xs, t, d, fp, rfl, ha, hl, hh, hn, q⟩ := h
  refine ⟨_, pss_one (ps_ret (pe_callTy call_tuple_of (by rfl) T.tuple PyProof.Rows.boot_tuple (pa_cons (pe_lc (own := [("row", 1)]) (g := gName 1) (tt := tYes) (by rfl) sc_law_shut.nd (pi_list (pv 0))
        (blkOk_by (own := [("row", 1)]) (N := N_law_shut) (sc := defScope s_law_shut) (by decide +kernel)) (fun _ _ _ _ _ => pg_name (i := 1) sc_law_shut.nd rfl (Or.inl rfl)) (fun _ _ _ _ _ => pts_nil)
        (fun _ _ _ _ _ => by exact (pe_c0 G hr (Nat.le_refl _) rfl (pa_cons (pv 1) pa_nil)))) pa_nil))), ?_⟩
  have hlen := hl.len
  have hnl := len_lt_nodes t
  refine ⟨_, rfl, a, rfl, ⟨_, SqL.of ha⟩, fun Dl hDl => lc_list (K := K) (a := a) (xs := xs) (fun i H' => Same H H' ∧ ∃ acc, H' Dl = some (.lst acc) ∧ Paired (ShV K H') acc (t.kids.take i)) ⟨same_new hDl, [], upd_same, .nil⟩ (fun i H' _ ⟨sm, _⟩ => SqL.of (sm _ _ ha)) ?_ ?_⟩
  · rintro i v H' hi ⟨sm, acc, hD, hp⟩
    obtain ⟨b, ys, k, f, rfl, hb, hk, hf⟩ := hl.at i v hi
    have hil := (List.getElem?_eq_some_iff.mp hi).1
    refine ⟨rfl, ?_⟩
    have hkh := ht_kid t i k hk
    have hkn := (idx_one t i k hk).2.1
    have hlp := Paired.len hp
    rw [List.length_take, kids_len] at hlp
    refine ⟨_, rfl, b, ys, k, d + 1, f, rfl, sm _ _ hb, hf.frame (fun c hc => ?_), by omega, by omega, fun H2 p bs sm2 hs hS => ?_⟩
    · obtain ⟨zs', e⟩ := hf.is.1 c hc
      rw [e]
      exact sm _ _ e
    refine ⟨acc, sm2 _ _ hD, small1000 (by omega), same_mut (sm.trans sm2) hDl, acc ++ [.ref p], upd_same, ?_⟩
    have e : t.kids.take (i + 1) = t.kids.take i ++ [k] := by rw [List.take_add_one, hk]; rfl
    rw [e]
    have kt : KeepT H2 (upd H2 Dl (.lst (acc ++ [.ref p]))) := fun y zs' => ⟨fun h => by rw [upd_ne (fun z => by rw [z, sm2 _ _ hD] at h; exact HO.noConfusion (Option.some.inj h))]; exact h, fun o h => by rw [upd_ne (fun z => by rw [z, sm2 _ _ hD] at h; exact HO.noConfusion (Option.some.inj h))]; exact h⟩
    exact Paired.app (Paired.mono (fun v k c => (c.keep (KeepT.of_same sm2)).keep kt) hp) (.cons ⟨p, bs, rfl, kt_sqt kt hs, hS.keep kt⟩ .nil)
  · rintro H' ⟨sm, acc, hD, hp⟩
    rw [hlen.1, ← kids_len, List.take_length] at hp
    refine ⟨Dl, acc, rfl, .inl ⟨SqL.of hD, fun l hl2 => ?_⟩⟩
    exact q _ l acc (sm.trans (same_new hl2)) (SqT.of upd_same) ((hl.shf acc hp).keep (KeepT.of_same (same_new hl2)))
theorem ok_shut (D : DefAt K mg "_law_shut" s_law_shut ["rows"]) (T : Txt K mg) : ∀ n : Nat, CalX P w K mg base CX0 n "_law_shut" ["rows"] (spShut K n)
  | 0 => by
    obtain ⟨f, fd, F, m, b⟩ := D.ex
    have no : ∀ vs H Q E, ¬ spShut K 0 vs H Q E := fun vs H Q E h => by
      obtain ⟨a, xs, t, d, fp, _, _, _, h, _⟩ := h
      exact absurd h (Nat.not_lt_zero _)
    exact ⟨f, fd, ⟨fun vs H Q E h => absurd h (no vs H Q E), fun A outer s H args us vs Q E _ _ _ _ h => absurd h (no vs H Q E)⟩, m, F.kp, b⟩
  | n + 1 => ok_shut_step D T (ok_shut D T n)
/-! ### _law_tape -/
theorem ok_tape (D : DefAt K mg "_law_tape" s_law_tape ["script"]) (T : Txt K mg) : CalX P w K mg base CX0 1 "_law_tape" ["script"] (spTape K) := by
  refine D.ok sc_law_tape (fun vs H Q E h => ?_) (fun f cdv A outer s H vs Q E hr h => ?_)
  · obtain ⟨a, ns, rfl, _⟩ := h
    rfl
  obtain ⟨a, ns, rfl, ha, hl, q⟩ := h
  refine ⟨_, pss_cons (ps_set (i := 1) sc_law_tape.nd rfl (.inl rfl) (pe_lst pa_nil))
    (pss_cons (ps_set (i := 2) sc_law_tape.nd rfl (.inl rfl) pe_int)
    (pss_cons (ps_for PassesOwn.never rfl (pi_list (pv 0)) (pg_name (i := 3) sc_law_tape.nd rfl (Or.inl rfl))
      (pss_cons (ps_set (i := 4) sc_law_tape.nd rfl (.inl rfl) (pe_ifExp (pt_cmpR op_ge (pv 3) pe_int (nomark _)) (pe_op op_mul pe_int (pv 3)) (pe_op op_sub (pe_op op_mul (pe_un un_neg pe_int) (pv 3)) pe_int)))
      (pss_one (ps_if (pt_cmpR op_ge (pv 4) (pe_op op_pow pe_int pe_int) (nomark _))
        (pss_one (ps_expr (pe_bm PySem.F.plainAttrs_list PySem.F.slot_list_append PySem.F.type_list_append mt_append (pv 1) (pa_cons (pv 4) pa_nil))))
        (pss_one (ps_set (i := 2) sc_law_tape.nd rfl (.inl rfl) (pe_op op_mod (pe_callTy call_int1 (by rfl) T.int boot_int (pa_cons (pe_op op_add (pe_op op_mul (pe_op op_add (pv 2) (pv 4)) pe_int) pe_int) pa_nil)) pe_int)))))))
    (pss_one (ps_ret (pe_lst (pa_cons (pv 1) (pa_cons (pv 2) pa_nil))))))), ?_⟩
  refine ⟨(by show 0 ≤ sizeLine; decide), fun g hg => ?_⟩
  have s0 : Same H (upd H g (.lst [])) := same_new hg
  refine ⟨_, rfl, a, rfl, ⟨_, s0.seq ha⟩, for_list (K := K) (a := a) (xs := ns.map V.int) (fun i σ H' => ∃ (t : Int) (gs : List Int) (o3 o4 : Option V), σ = [some (.ref a), some (.ref g), some (.int t), o3, o4] ∧ Same H H' ∧ H' g = some (.lst (gs.map V.int)) ∧ gs.length ≤ i)
    ⟨90121, [], none, none, rfl, s0, upd_same, Nat.le_refl _⟩ (fun i σ H' _ ⟨_, _, _, _, _, sm, _⟩ => sm.seq ha) ?_ ?_⟩
  · rintro i x σ H' hi ⟨t, gs, o3, o4, rfl, sm, hG, hgl⟩
    have hil := (List.getElem?_eq_some_iff.mp hi).1
    rw [List.length_map] at hil
    obtain ⟨c, rfl⟩ : ∃ c, x = V.int c := by
      rw [List.getElem?_map] at hi
      obtain ⟨c, _, e⟩ := Option.map_eq_some_iff.mp hi
      exact ⟨c, e.symm⟩
    have rest : ∀ code : Int, ∀ σ' : L2.St, σ' = [some (.ref a), some (.ref g), some (.int t), some (.int c), some (.int code)] → True := fun _ _ _ => trivial
    refine ⟨_, rfl, _, _, rfl, rfl, _, rfl, ?_⟩
    refine ite2 (fun cc => ?_) (fun cc => ?_)
    · refine ⟨_, rfl, _, _, rfl, rfl, .inl ⟨by decide, by decide⟩, ?_⟩
      refine ⟨_, rfl, _, _, rfl, rfl, ⟨by decide, by decide, by decide⟩, _, _, rfl, rfl, _, rfl, ?_⟩
      refine ite2 (fun c2 => ?_) (fun c2 => ?_)
      · refine ⟨_, rfl, .inl ⟨rfl, _, SqL.of hG⟩, _, rfl, g, _, _, rfl, rfl, hG, small1000 (by rw [List.length_map]; omega), ?_⟩
        exact ⟨t, gs ++ [_], _, _, rfl, same_mut sm hg, by rw [upd_same, List.map_append]; rfl, by rw [List.length_append]; show gs.length + 1 ≤ i + 1; omega⟩
      · refine ⟨_, rfl, _, rfl, _, _, rfl, rfl, _, _, rfl, rfl, .inr ⟨by decide, by decide⟩, _, _, rfl, rfl, .inl ⟨_, rfl, _, _, rfl, rfl, (show (0 : Int) < 2305843009213693951 by decide), ?_⟩⟩
        exact ⟨_, gs, _, _, rfl, sm, hG, by omega⟩
    · refine ⟨_, rfl, _, rfl, _, _, rfl, rfl, .inl ⟨by decide, by decide⟩, _, _, rfl, rfl, ?_⟩
      refine ⟨_, rfl, _, _, rfl, rfl, ⟨by decide, by decide, by decide⟩, _, _, rfl, rfl, _, rfl, ?_⟩
      refine ite2 (fun c2 => ?_) (fun c2 => ?_)
      · refine ⟨_, rfl, .inl ⟨rfl, _, SqL.of hG⟩, _, rfl, g, _, _, rfl, rfl, hG, small1000 (by rw [List.length_map]; omega), ?_⟩
        exact ⟨t, gs ++ [_], _, _, rfl, same_mut sm hg, by rw [upd_same, List.map_append]; rfl, by rw [List.length_append]; show gs.length + 1 ≤ i + 1; omega⟩
      · refine ⟨_, rfl, _, rfl, _, _, rfl, rfl, _, _, rfl, rfl, .inr ⟨by decide, by decide⟩, _, _, rfl, rfl, .inl ⟨_, rfl, _, _, rfl, rfl, (show (0 : Int) < 2305843009213693951 by decide), ?_⟩⟩
        exact ⟨_, gs, _, _, rfl, sm, hG, by omega⟩
  · rintro σ H' ⟨t, gs, o3, o4, rfl, sm, hG, hgl⟩
    rw [List.length_map] at hgl
    refine ⟨_, rfl, _, rfl, (by show 2 ≤ sizeLine; decide), fun tp htp => ?_⟩
    have s1 : Same H' (upd H' tp (.lst [.ref g, .int t])) := same_new htp
    refine q _ tp g (sm.trans s1) ⟨fun e => ?_, gs, t, upd_same, s1 _ _ hG, by omega⟩ (sm.free htp) hg
    rw [e, hG] at htp
    exact nomatch htp
end
end K19

set_option Elab.async false
set_option linter.all false
set_option maxRecDepth 100000
set_option maxHeartbeats 4000000
namespace K19
open PySem PySem.Spec PyProof.Rows L2 Dt
/-! ### _law_made -/
def KeepB (tp g : Addr) (H H' : Hp) : Prop := ∀ y o, H y = some o → y ≠ tp → y ≠ g → H' y = some o
structure MI (H0 H : Hp) (tp g R D : Addr) (qs : List (Addr × Nat)) : Prop where
  tape : Tape H tp g
  rows : H R = some (.lst (qs.map fun q => V.ref q.1))
  deeps : H D = some (.lst (qs.map fun q => V.int (q.2 : Nat)))
  nd : (tp :: g :: R :: D :: qs.map (·.1)).Nodup
  fr : ∀ y ∈ R :: D :: qs.map (·.1), H0 y = none
  kp : KeepB tp g H0 H
  fo : ∃ r0 qs' T fp, qs = (r0, 0) :: qs' ∧ LF H 0 [.ref r0] (.c T .o) fp ∧ fp.Perm qs ∧ (Dt.c T .o).deep 1 = true
  dp : ∀ q ∈ qs, q.2 ≤ 11
theorem MI.in_lst {H0 H : Hp} {tp g R D : Addr} {qs : List (Addr × Nat)} (m : MI H0 H tp g R D qs) : ∀ a ∈ qs.map (·.1), ∃ xs, H a = some (.lst xs) := fun a ha => by
  obtain ⟨r0, qs', T, fp, _, l, pm, _⟩ := m.fo
  exact l.is.1 a ((pm.map (·.1)).mem_iff.mpr ha)
theorem MI.same {H0 H H' : Hp} {tp g R D : Addr} {qs : List (Addr × Nat)} (m : MI H0 H tp g R D qs) (e : Same H H') : MI H0 H' tp g R D qs := by
  obtain ⟨r0, qs', T, fp, e1, l, pm, dd⟩ := m.fo
  refine ⟨m.tape.same e, e _ _ m.rows, e _ _ m.deeps, m.nd, m.fr, fun y o h1 h2 h3 => e _ _ (m.kp y o h1 h2 h3), ⟨r0, qs', T, fp, e1, l.frame fun a ha => ?_, pm, dd⟩, m.dp⟩
  obtain ⟨xs, h⟩ := l.is.1 a ha
  rw [h]
  exact e _ _ h
theorem MI.ne {H0 H : Hp} {tp g R D : Addr} {qs : List (Addr × Nat)} (m : MI H0 H tp g R D qs) : (R ≠ tp ∧ R ≠ g ∧ D ≠ tp ∧ D ≠ g ∧ R ≠ D) ∧ ∀ a ∈ qs.map (·.1), a ≠ tp ∧ a ≠ g ∧ a ≠ R ∧ a ≠ D := by
  have h := m.nd
  simp only [List.nodup_cons, List.mem_cons, not_or] at h
  obtain ⟨⟨a1, a2, a3, a4⟩, ⟨b1, b2, b3⟩, ⟨c1, c2⟩, d1, e1⟩ := h
  refine ⟨⟨fun z => a2 z.symm, fun z => b1 z.symm, fun z => a3 z.symm, fun z => b2 z.symm, c1⟩, fun a ha => ⟨?_, ?_, ?_, ?_⟩⟩
  · intro z; rw [z] at ha; exact a4 ha
  · intro z; rw [z] at ha; exact b3 ha
  · intro z; rw [z] at ha; exact c2 ha
  · intro z; rw [z] at ha; exact d1 ha
theorem MI.pick {H0 H H' : Hp} {tp g R D : Addr} {qs : List (Addr × Nat)} (m : MI H0 H tp g R D qs) (t : Tape H' tp g) (b : But tp g H H') : MI H0 H' tp g R D qs := by
  obtain ⟨⟨n1, n2, n3, n4, n5⟩, n6⟩ := m.ne
  obtain ⟨r0, qs', T, fp, e1, l, pm, dd⟩ := m.fo
  refine ⟨t, by rw [b R n1 n2]; exact m.rows, by rw [b D n3 n4]; exact m.deeps, m.nd, m.fr, fun y o h1 h2 h3 => by rw [b y h2 h3]; exact m.kp y o h1 h2 h3, ⟨r0, qs', T, fp, e1, l.frame fun a ha => ?_, pm, dd⟩, m.dp⟩
  have ha' := (pm.map (·.1)).mem_iff.mp ha
  exact b a (n6 a ha').1 (n6 a ha').2.1
theorem MI.put {H0 H : Hp} {tp g R D b k : Addr} {e : Nat} {xs : List V} {qs : List (Addr × Nat)} (m : MI H0 H tp g R D qs) (hm : (b, e) ∈ qs) (he : e < 11) (hb : H b = some (.lst xs)) (h6 : xs.length < 6) (hk : H k = none) :
    MI H0 (upd (upd (upd (upd H k (.lst [])) b (.lst (xs ++ [.ref k]))) R (.lst ((qs.map fun q => V.ref q.1) ++ [.ref k]))) D (.lst ((qs.map fun q => V.int (q.2 : Nat)) ++ [.int (e + 1 : Nat)]))) tp g R D (qs ++ [(k, e + 1)]) := by
  obtain ⟨⟨n1, n2, n3, n4, n5⟩, n6⟩ := m.ne
  obtain ⟨r0, qs', T, fp, e1, l, pm, dd⟩ := m.fo
  obtain ⟨tg, gs, t, ht1, ht2, ht3⟩ := m.tape
  have hbq : b ∈ qs.map (·.1) := List.mem_map.mpr ⟨_, hm, rfl⟩
  obtain ⟨b1, b2, b3, b4⟩ := n6 b hbq
  have kx : ∀ y o, H y = some o → k ≠ y := fun y o h z => by rw [z, h] at hk; exact nomatch hk
  have ktp := kx tp _ ht1
  have kg := kx g _ ht2
  have kR := kx R _ m.rows
  have kD := kx D _ m.deeps
  have kb := kx b _ hb
  have kq : k ∉ qs.map (·.1) := fun z => by
    obtain ⟨ys, h⟩ := m.in_lst k z
    exact kx k _ h rfl
  have fpn : (fp.map (·.1)).Nodup := by
    have h := m.nd
    simp only [List.nodup_cons] at h
    exact (pm.map (·.1)).nodup_iff.mpr h.2.2.2.2
  obtain ⟨t', fp', l', pm', dd', len', nx'⟩ := l.put hb h6 hk fpn (pm.mem_iff.mpr hm) dd
  refine ⟨⟨tg, gs, t, ?_, ?_, ht3⟩, ?_, ?_, ?_, ?_, ?_, ?_, ?_⟩
  · rw [upd_ne (Ne.symm n3), upd_ne (Ne.symm n1), upd_ne (Ne.symm b1), upd_ne (Ne.symm ktp)]; exact ht1
  · rw [upd_ne (Ne.symm n4), upd_ne (Ne.symm n2), upd_ne (Ne.symm b2), upd_ne (Ne.symm kg)]; exact ht2
  · rw [upd_ne n5, upd_same, List.map_append]; rfl
  · rw [upd_same, List.map_append]; rfl
  · have h := m.nd
    rw [List.map_append]
    show ((tp :: g :: R :: D :: qs.map (·.1)) ++ [k]).Nodup
    refine List.nodup_append.mpr ⟨h, by simp, fun y hy z hz => ?_⟩
    obtain rfl : z = k := by simpa using hz
    simp only [List.mem_cons] at hy
    intro e'
    subst e'
    rcases hy with hy | hy | hy | hy | hy
    · exact ktp hy
    · exact kg hy
    · exact kR hy
    · exact kD hy
    · exact kq hy
  · intro y hy
    rw [List.map_append] at hy
    simp only [List.mem_cons, List.mem_append, List.map_cons, List.map_nil, List.not_mem_nil, or_false] at hy
    rcases hy with hy | hy | hy | hy
    · exact m.fr y (by simp [hy])
    · exact m.fr y (by simp [hy])
    · exact m.fr y (List.mem_cons_of_mem _ (List.mem_cons_of_mem _ hy))
    · subst hy
      cases e0 : H0 y with
      | none => rfl
      | some o =>
        have := m.kp y o e0 ktp kg
        rw [hk] at this
        exact nomatch this
  · intro y o h1 h2 h3
    have hy := m.kp y o h1 h2 h3
    have yR : y ≠ R := fun z => by rw [z, m.fr R (by simp)] at h1; exact nomatch h1
    have yD : y ≠ D := fun z => by rw [z, m.fr D (by simp)] at h1; exact nomatch h1
    have yb : y ≠ b := fun z => by rw [z, m.fr b (List.mem_cons_of_mem _ (List.mem_cons_of_mem _ hbq))] at h1; exact nomatch h1
    rw [upd_ne yD, upd_ne yR, upd_ne yb, upd_ne (Ne.symm (kx y _ hy))]
    exact hy
  · have l2 : LF (upd (upd (upd (upd H k (.lst [])) b (.lst (xs ++ [.ref k]))) R (.lst ((qs.map fun q => V.ref q.1) ++ [.ref k]))) D (.lst ((qs.map fun q => V.int (q.2 : Nat)) ++ [.int (e + 1 : Nat)]))) 0 [.ref r0] t' fp' := l'.frame fun a ha => by
      have ha2 := ((pm'.map (·.1)).mem_iff.mp ha)
      rw [List.map_append] at ha2
      rcases List.mem_append.mp ha2 with ha3 | ha3
      · have ha4 := n6 a ((pm.map (·.1)).mem_iff.mp ha3)
        rw [upd_ne ha4.2.2.2, upd_ne ha4.2.2.1]
      · obtain rfl : a = k := by simpa using ha3
        rw [upd_ne kD, upd_ne kR]
    cases l2 with
    | @cons _ _ vs ws T' r f1 f2 h p q2 =>
      cases q2
      exact ⟨r0, qs' ++ [(k, e + 1)], T', _, by rw [e1]; rfl, .cons h p (.nil _), pm'.trans (List.Perm.append_right _ pm), dd'⟩
  · intro q hq
    rcases List.mem_append.mp hq with hq | hq
    · exact m.dp q hq
    · obtain rfl : q = (k, e + 1) := by simpa using hq
      exact he
/-- what comes out -/
theorem MI.out {H0 H : Hp} {tp g R D : Addr} {qs : List (Addr × Nat)} (m : MI H0 H tp g R D qs) : ∃ r0 vs T f1, (qs.map fun q => V.ref q.1)[0]? = some (.ref r0) ∧ H r0 = some (.lst vs) ∧ LF H 1 vs T f1 ∧ T.ht ≤ 11 ∧ T.nodes = qs.length ∧ T.good 1 = true := by
  obtain ⟨r0, qs', T, fp, e1, l, pm, dd⟩ := m.fo
  have h1 := l.ht (B := 11) (fun q hq => m.dp q (pm.mem_iff.mp hq)) (by omega)
  have h2 := l.len.2
  have h3 := pm.length_eq
  cases l with
  | @cons _ _ vs ws _ r f1 f2 h p q2 =>
    have h1' : max (T.ht + 1) 0 + 0 ≤ 12 := h1
    have h2' : ((r0, 0) :: (f1 ++ f2)).length + 1 = T.nodes + 1 := h2
    have d' : (here 1 T && deep 1 T && true) = true := dd
    simp only [Bool.and_eq_true] at d'
    refine ⟨r0, vs, T, f1, by rw [e1]; rfl, h, p, by omega, by omega, ?_⟩
    unfold Dt.good
    rw [d'.1.1, d'.1.2]
    rfl
def spMade (K : PySem.W.Frag) : Sp := fun vs H Q _ => ∃ (tp g : Addr) (most : Nat) (room : Int), vs = [.ref tp, .int (most : Nat), .int room] ∧ Tape H tp g ∧ 1 ≤ most ∧ most ≤ 63 ∧
  ∀ H' v T, Tape H' tp g → KeepB tp g H H' → ShV K H' v T → T.good 1 = true → T.ht ≤ 12 → T.nodes ≤ 64 → Q v H'
abbrev stMade (tp : Addr) (most : Nat) (room : Int) (R Dd : Addr) (lvs : Int) (o6 o7 o8 o9 o10 : Option V) : L2.St := [some (.ref tp), some (.int (most : Nat)), some (.int room), some (.ref R), some (.ref Dd), some (.int lvs), o6, o7, o8, o9, o10, none]
def tInner (H0 : Hp) (tp g : Addr) (most : Nat) (room : Int) : TS := fun D σ H => ∃ (R Dd : Addr) (qs : List (Addr × Nat)) (lvs : Int) (sp : Nat) (o6 o8 o9 o10 : Option V), σ = stMade tp most room R Dd lvs o6 (some (.int (sp : Nat))) o8 o9 o10 ∧ MI H0 H tp g R Dd qs ∧ sp < qs.length ∧ qs.length ≤ most ∧
  ∀ (qs' : List (Addr × Nat)) (lvs' : Int) (o8' o9' o10' : Option V) (H' : Hp), MI H0 H' tp g R Dd qs' → qs'.length ≤ most → D.nx (stMade tp most room R Dd lvs' o6 (some (.int (sp : Nat))) o8' o9' o10') H'
def tGrows : TE := fun σ H Q => ∃ (R : Addr) (sp : Nat) (rl : List V) (b : Addr) (xs : List V), σ[3]? = some (some (.ref R)) ∧ σ[7]? = some (some (.int (sp : Nat))) ∧ H R = some (.lst rl) ∧ rl[sp]? = some (.ref b) ∧ H b = some (.lst xs) ∧ ∀ c : Int, Q (.int c) H
theorem five {r : Nat} (h : r < 5) : ∃ c : Nat, atI [V.int 1, V.int 1, V.int 2, V.int 3, V.int 6] (r : Nat) = some (.int (c : Nat)) ∧ c ≤ 6 := by
  have h' : r = 0 ∨ r = 1 ∨ r = 2 ∨ r = 3 ∨ r = 4 := by omega
  rcases h' with rfl | rfl | rfl | rfl | rfl
  · exact ⟨1, rfl, by decide⟩
  · exact ⟨1, rfl, by decide⟩
  · exact ⟨2, rfl, by decide⟩
  · exact ⟨3, rfl, by decide⟩
  · exact ⟨6, rfl, by decide⟩
section
variable {P : Program} {w : World} {K : PySem.W.Frag} {mg : Str → Option Value} {base : Heap}
theorem ok_made (D : DefAt K mg "_law_made" s_law_made ["tape", "most", "room"]) (T : Txt K mg) (GP : CalX P w K mg base CX0 1 "_law_pick" ["tape", "span"] spPick) (GS : CalX P w K mg base CX0 13 "_law_shut" ["rows"] (spShut K 13)) :
    CalX P w K mg base CX0 14 "_law_made" ["tape", "most", "room"] (spMade K) := by
  refine D.ok sc_law_made (fun vs H Q E h => ?_) (fun f cdv A outer s H vs Q E hr h => ?_)
  · obtain ⟨tp, g, most, room, rfl, _⟩ := h
    rfl
  obtain ⟨tp, g, most, room, rfl, hT, hm1, hm2, q⟩ := h
  refine ⟨_, pss_cons (ps_set (i := 3) sc_law_made.nd rfl (.inl rfl) (pe_lst (pa_cons (pe_lst pa_nil) pa_nil)))
    (pss_cons (ps_set (i := 4) sc_law_made.nd rfl (.inl rfl) (pe_lst (pa_cons pe_int pa_nil)))
    (pss_cons (ps_set (i := 5) sc_law_made.nd rfl (.inl rfl) pe_int)
    (pss_cons (ps_for PassesOwn.never rfl (pi_range1 rfl T.range (pa_cons (pe_c0 GP hr (by decide) rfl (pa_cons (pv 0) (pa_cons (pv 1) pa_nil))) pa_nil)) (pg_name (i := 6) sc_law_made.nd rfl (Or.inl rfl))
      (pss_cons (ps_set (i := 7) sc_law_made.nd rfl (.inl rfl) (pe_c0 GP hr (by decide) rfl (pa_cons (pv 0) (pa_cons (pe_callB call_len_seq (by rfl) T.len PySem.boot_len (pa_cons (pv 3) pa_nil)) pa_nil))))
      (pss_cons (ps_if (pt_cmpR op_eq (pe_c0 GP hr (by decide) rfl (pa_cons (pv 0) (pa_cons pe_int pa_nil))) pe_int (nomark _))
        (pss_one (ps_set (i := 7) sc_law_made.nd rfl (.inl rfl) (pe_op op_sub (pe_callB call_len_seq (by rfl) T.len PySem.boot_len (pa_cons (pv 3) pa_nil)) pe_int))) pss_nil)
      (pss_one (ps_conv (t' := tInner H tp g most room) (ps_for PassesOwn.never rfl (pi_range1 rfl T.range (pa_cons (pe_ix ix_list (pe_lst (pa_cons pe_int (pa_cons pe_int (pa_cons pe_int (pa_cons pe_int (pa_cons pe_int pa_nil)))))) (pe_c0 GP hr (by decide) rfl (pa_cons (pv 0) (pa_cons pe_int pa_nil))) (fun _ _ => rfl)) pa_nil)) (pg_name (i := 8) sc_law_made.nd rfl (Or.inl rfl))
        (pss_cons (ps_set (i := 9) sc_law_made.nd rfl (.inl rfl) (pe_conv (t' := tGrows) (pe_ifExp (pt_truth (pe_ix ix_list (pv 3) (pv 7) (fun _ _ => rfl)) (by intro _; rfl)) pe_int pe_int) (by
          rintro σ H Q ⟨R, sp, rl, b, xs, h1, h2, h3, h4, h5, q⟩
          refine ⟨_, h1, _, h2, R, _, _, _, rfl, rfl, SqL.of h3, atI_nat h4, !xs.isEmpty, .inl ⟨xs, SqL.of h5, rfl⟩, ?_⟩
          exact ite2 (fun _ => q 1) (fun _ => q 0))))
        (pss_one (ps_if (PW.pt (pw_and (pt_cmpR op_lt (pe_callB call_len_seq (by rfl) T.len PySem.boot_len (pa_cons (pe_ix ix_list (pv 3) (pv 7) (fun _ _ => rfl)) pa_nil)) pe_int (nomark _))
            (pw_and (pt_cmpR op_lt (pe_ix ix_list (pv 4) (pv 7) (fun _ _ => rfl)) pe_int (nomark _))
            (pw_and (pt_cmpR op_lt (pe_callB call_len_seq (by rfl) T.len PySem.boot_len (pa_cons (pv 3) pa_nil)) (pv 1) (nomark _))
            (pw_and1 (pt_cmpR op_le (pe_op op_add (pv 5) (pv 9)) (pv 2) (nomark _)))))))
          (pss_cons (ps_set (i := 10) sc_law_made.nd rfl (.inl rfl) (pe_lst pa_nil))
          (pss_cons (ps_expr (pe_bm PySem.F.plainAttrs_list PySem.F.slot_list_append PySem.F.type_list_append mt_append (pe_ix ix_list (pv 3) (pv 7) (fun _ _ => rfl)) (pa_cons (pv 10) pa_nil)))
          (pss_cons (ps_expr (pe_bm PySem.F.plainAttrs_list PySem.F.slot_list_append PySem.F.type_list_append mt_append (pv 3) (pa_cons (pv 10) pa_nil)))
          (pss_cons (ps_expr (pe_bm PySem.F.plainAttrs_list PySem.F.slot_list_append PySem.F.type_list_append mt_append (pv 4) (pa_cons (pe_op op_add (pe_ix ix_list (pv 4) (pv 7) (fun _ _ => rfl)) pe_int) pa_nil)))
          (pss_one (ps_aug (i := 5) sc_law_made.nd rfl (.inl rfl) (pv 9) ip_add)))))) pss_nil)))) (by
        rintro D σ H' ⟨R, Dd, qs, lvs, sp, o6, o8, o9, o10, rfl, mi, hsp, hq, qq⟩
        refine ⟨(by show 5 ≤ sizeLine; decide), fun l hl => ?_⟩
        have mi1 := mi.same (same_new (o := .lst [.int 1, .int 1, .int 2, .int 3, .int 6]) hl)
        have lt : l ≠ tp := fun z => by
          obtain ⟨_, _, _, e, _⟩ := mi.tape
          rw [z, e] at hl
          exact nomatch hl
        have lg : l ≠ g := fun z => by
          obtain ⟨_, _, _, _, e, _⟩ := mi.tape
          rw [z, e] at hl
          exact nomatch hl
        refine ⟨_, rfl, tp, g, 5, rfl, mi1.tape, by decide, by decide, fun H1 r hr1 hT1 hB1 => ?_⟩
        have mi2 := mi1.pick hT1 hB1
        obtain ⟨c, hc, hc6⟩ := five hr1
        refine ⟨l, _, _, _, rfl, rfl, SqL.of (show H1 l = some (.lst [.int 1, .int 1, .int 2, .int 3, .int 6]) by rw [hB1 l lt lg, upd_same]), hc, _, rfl, by omega, by omega, for_range (lo := 0) (n := c) (fun i σ H' => ∃ (qs' : List (Addr × Nat)) (lvs' : Int) (o8' o9' o10' : Option V), σ = stMade tp most room R Dd lvs' o6 (some (.int (sp : Nat))) o8' o9' o10' ∧ MI H H' tp g R Dd qs' ∧ qs'.length ≤ most ∧ sp < qs'.length)
          ⟨qs, lvs, o8, o9, o10, rfl, mi2, hq, hsp⟩ ?_ (fun σ H' ⟨qs', lvs', a8, a9, a10, e, m', l', _⟩ => by rw [e]; exact qq qs' lvs' a8 a9 a10 H' m' l')⟩
        rintro i σ H' hi ⟨qs', lvs', a8, a9, a10, rfl, m, hq', hsp'⟩
        obtain ⟨⟨b, e⟩, hbe⟩ : ∃ z, qs'[sp]? = some z := ⟨_, List.getElem?_eq_getElem hsp'⟩
        have hbm : (b, e) ∈ qs' := List.mem_of_getElem? hbe
        obtain ⟨xs, hb⟩ := m.in_lst b (List.mem_map.mpr ⟨_, hbm, rfl⟩)
        have er : (qs'.map fun q => V.ref q.1)[sp]? = some (.ref b) := by rw [List.getElem?_map, hbe]; rfl
        have ed : (qs'.map fun q => V.int (q.2 : Nat))[sp]? = some (.int (e : Nat)) := by rw [List.getElem?_map, hbe]; rfl
        refine ⟨R, sp, _, b, xs, rfl, rfl, m.rows, er, hb, fun gr => ?_⟩
        have keep : ∀ a10', ∃ (qs'' : List (Addr × Nat)) (lvs'' : Int) (o8' o9' o10' : Option V), stMade tp most room R Dd lvs' o6 (some (.int (sp : Nat))) (some (.int (0 + (i : Nat)))) (some (.int gr)) a10' = stMade tp most room R Dd lvs'' o6 (some (.int (sp : Nat))) o8' o9' o10' ∧ MI H H' tp g R Dd qs'' ∧ qs''.length ≤ most ∧ sp < qs''.length := fun a10' => ⟨qs', lvs', _, _, _, rfl, m, hq', hsp'⟩
        refine ⟨_, rfl, _, rfl, R, _, _, _, rfl, rfl, SqL.of m.rows, atI_nat er, b, xs, rfl, .inl (SqL.of hb), _, _, rfl, rfl, _, rfl, ?_⟩
        refine ite2 (fun c1 => ?_) (fun _ => iteF (keep _))
        refine ⟨_, rfl, _, rfl, Dd, _, _, _, rfl, rfl, SqL.of m.deeps, atI_nat ed, _, _, rfl, rfl, _, rfl, ?_⟩
        refine ite2 (fun c2 => ?_) (fun _ => iteF (keep _))
        refine ⟨_, rfl, R, _, rfl, .inl (SqL.of m.rows), _, rfl, _, _, rfl, rfl, _, rfl, ?_⟩
        refine ite2 (fun c3 => ?_) (fun _ => iteF (keep _))
        refine ⟨_, rfl, _, rfl, _, _, rfl, rfl, _, rfl, _, _, rfl, rfl, _, rfl, ?_⟩
        refine ite2 (fun c4 => ?_) (fun _ => keep _)
        have c1' : (xs.length : Int) < 6 := of_decide_eq_true c1
        have c2' : (e : Int) < 11 := of_decide_eq_true c2
        have c3' : ((qs'.map fun q => V.ref q.1).length : Int) < (most : Nat) := of_decide_eq_true c3
        rw [List.length_map] at c3'
        -- kid = []; rows[spot].append(kid); rows.append(kid); deeps.append(deeps[spot] + 1); leaves += grows
        refine ⟨(by show 0 ≤ sizeLine; decide), fun k hk => ?_⟩
        have sk : Same H' (upd H' k (.lst [])) := same_new hk
        have mk := m.put hbm (by omega) hb (by omega) hk
        obtain ⟨⟨n1, n2, n3, n4, n5⟩, n6⟩ := m.ne
        obtain ⟨b1, b2, b3, b4⟩ := n6 b (List.mem_map.mpr ⟨_, hbm, rfl⟩)
        refine ⟨_, rfl, _, rfl, R, _, _, _, rfl, rfl, SqL.of (sk _ _ m.rows), atI_nat er, .inl ⟨rfl, _, SqL.of (sk _ _ hb)⟩, _, rfl, b, _, _, rfl, rfl, sk _ _ hb, small1000 (by omega), ?_⟩
        have hR2 : (upd (upd H' k (.lst [])) b (.lst (xs ++ [.ref k]))) R = some (.lst (qs'.map fun q => V.ref q.1)) := by rw [upd_ne (Ne.symm b3)]; exact sk _ _ m.rows
        have hD2 : (upd (upd H' k (.lst [])) b (.lst (xs ++ [.ref k]))) Dd = some (.lst (qs'.map fun q => V.int (q.2 : Nat))) := by rw [upd_ne (Ne.symm b4)]; exact sk _ _ m.deeps
        refine ⟨_, rfl, .inl ⟨rfl, _, SqL.of hR2⟩, _, rfl, R, _, _, rfl, rfl, hR2, small1000 (by rw [List.length_map]; omega), ?_⟩
        have hD3 : (upd (upd (upd H' k (.lst [])) b (.lst (xs ++ [.ref k]))) R (.lst ((qs'.map fun q => V.ref q.1) ++ [.ref k]))) Dd = some (.lst (qs'.map fun q => V.int (q.2 : Nat))) := by rw [upd_ne (Ne.symm n5)]; exact hD2
        refine ⟨_, rfl, .inl ⟨rfl, _, SqL.of hD3⟩, _, rfl, _, rfl, Dd, _, _, _, rfl, rfl, SqL.of hD3, atI_nat ed, _, _, rfl, rfl, Dd, _, _, rfl, rfl, hD3, small1000 (by rw [List.length_map]; omega), ?_⟩
        refine ⟨_, rfl, _, rfl, _, _, rfl, rfl, ?_⟩
        exact ⟨qs' ++ [(k, e + 1)], _, _, _, _, rfl, mk, by rw [List.length_append, List.length_singleton]; omega, by rw [List.length_append, List.length_singleton]; omega⟩))))))
    (pss_cons (ps_set (i := 11) sc_law_made.nd rfl (.inl rfl) (pe_c0 GS hr (by decide) rfl (pa_cons (pe_ix ix_list (pv 3) pe_int (fun _ _ => rfl)) pa_nil)))
    (pss_one (ps_ret (pe_ifExp (pt_cmpR op_gt (pv 2) pe_int (nomark _)) (pe_tup (pa_cons (pv 11) pa_nil)) (pv 11)))))))), ?_⟩
  -- rows = [[]]; deeps = [0]; leaves = 1
  refine ⟨(by show 0 ≤ sizeLine; decide), fun r0 hr0 => ⟨(by show 1 ≤ sizeLine; decide), fun R hR => ⟨(by show 1 ≤ sizeLine; decide), fun Dd hDd => ?_⟩⟩⟩
  have s0 : Same H (upd H r0 (.lst [])) := same_new hr0
  have s1 : Same (upd H r0 (.lst [])) (upd (upd H r0 (.lst [])) R (.lst [.ref r0])) := same_new hR
  have s2 : Same (upd (upd H r0 (.lst [])) R (.lst [.ref r0])) (upd (upd (upd H r0 (.lst [])) R (.lst [.ref r0])) Dd (.lst [.int 0])) := same_new hDd
  have mi : MI H (upd (upd (upd H r0 (.lst [])) R (.lst [.ref r0])) Dd (.lst [.int 0])) tp g R Dd [(r0, 0)] := by
    obtain ⟨tg, gs, t, ht1, ht2, ht3⟩ := id hT
    have e1 := ne_of_none ht1 hr0
    have e2 := ne_of_none ht2 hr0
    have e3 := ne_of_none (s0 _ _ ht1) hR
    have e4 := ne_of_none (s0 _ _ ht2) hR
    have e5 := ne_of_none (s1 _ _ (s0 _ _ ht1)) hDd
    have e6 := ne_of_none (s1 _ _ (s0 _ _ ht2)) hDd
    have e7 : r0 ≠ R := ne_of_none (show (upd H r0 (.lst [])) r0 = some (.lst []) from upd_same) hR
    have e8 : r0 ≠ Dd := ne_of_none (s1 _ _ (show (upd H r0 (.lst [])) r0 = some (.lst []) from upd_same)) hDd
    have e9 : R ≠ Dd := ne_of_none (show (upd (upd H r0 (.lst [])) R (.lst [.ref r0])) R = some (.lst [.ref r0]) from upd_same) hDd
    refine ⟨hT.same (s0.trans (s1.trans s2)), s2 _ _ upd_same, upd_same, ?_, ?_, fun y o h1 _ _ => s2 _ _ (s1 _ _ (s0 _ _ h1)), ⟨r0, [], .o, [(r0, 0)], rfl, .cons (s2 _ _ (s1 _ _ upd_same)) (.nil _) (.nil _), List.Perm.refl _, by decide⟩, fun q hq => ?_⟩
    · simp only [List.map_cons, List.map_nil, List.nodup_cons, List.mem_cons, List.not_mem_nil, or_false, not_or, not_false_eq_true, List.nodup_nil, and_true]
      exact ⟨⟨tg, e3, e5, e1⟩, ⟨e4, e6, e2⟩, ⟨e9, Ne.symm e7⟩, Ne.symm e8⟩
    · intro y hy
      simp only [List.map_cons, List.map_nil, List.mem_cons, List.not_mem_nil, or_false] at hy
      rcases hy with rfl | rfl | rfl
      · exact s0.free hR
      · exact s0.free (s1.free hDd)
      · exact hr0
    · obtain rfl : q = (r0, 0) := by simpa using hq
      exact Nat.zero_le _
  revert mi
  generalize upd (upd (upd H r0 (.lst [])) R (.lst [.ref r0])) Dd (.lst [.int 0]) = H3
  intro mi
  -- for turn in range(_law_pick(tape, most))
  refine ⟨_, rfl, _, rfl, tp, g, most, rfl, mi.tape, by omega, by omega, fun H4 r hr4 hT4 hB4 => ?_⟩
  refine ⟨_, rfl, by omega, by omega, for_range (lo := 0) (n := r) (fun i σ H' => ∃ (qs : List (Addr × Nat)) (lvs : Int) (o6 o7 o8 o9 o10 : Option V), σ = stMade tp most room R Dd lvs o6 o7 o8 o9 o10 ∧ MI H H' tp g R Dd qs ∧ qs.length ≤ most ∧ 0 < qs.length)
    ⟨[(r0, 0)], 1, none, none, none, none, none, rfl, mi.pick hT4 hB4, hm1, Nat.succ_pos _⟩ ?_ ?_⟩
  · rintro i σ H' hi ⟨qs, lvs, o6, o7, o8, o9, o10, rfl, mi, hq1, hq2⟩
    refine ⟨_, rfl, _, rfl, R, _, rfl, .inl (SqL.of mi.rows), tp, g, qs.length, congrArg (fun n : Nat => [V.ref tp, V.int n]) (List.length_map _), mi.tape, hq2, by omega, fun H5 sp hsp hT5 hB5 => ?_⟩
    have mi5 := mi.pick hT5 hB5
    refine ⟨_, rfl, tp, g, 3, rfl, mi5.tape, by decide, by decide, fun H6 z hz hT6 hB6 => ?_⟩
    have mi6 := mi5.pick hT6 hB6
    refine ⟨rfl, _, rfl, ?_⟩
    refine ite2 (fun c => ?_) (fun c => ?_)
    · refine ⟨_, rfl, R, _, rfl, .inl (SqL.of mi6.rows), _, _, rfl, rfl, ?_⟩
      refine ⟨R, Dd, qs, lvs, qs.length - 1, some (.int (0 + (i : Nat))), o8, o9, o10, ?_, mi6, by omega, hq1, fun qs' lvs' o8' o9' o10' H7 mi7 hq7 => ⟨qs', lvs', _, _, _, _, _, rfl, mi7, hq7, ?_⟩⟩
      · have : (((qs.map fun q => V.ref q.1).length : Nat) : Int) - 1 = ((qs.length - 1 : Nat) : Int) := by rw [List.length_map]; omega
        rw [← this]
        rfl
      · obtain ⟨_, _, _, _, e, _⟩ := mi7.fo
        rw [e]
        exact Nat.succ_pos _
    · refine ⟨R, Dd, qs, lvs, sp, some (.int (0 + (i : Nat))), o8, o9, o10, rfl, mi6, hsp, hq1, fun qs' lvs' o8' o9' o10' H7 mi7 hq7 => ⟨qs', lvs', _, _, _, _, _, rfl, mi7, hq7, ?_⟩⟩
      obtain ⟨_, _, _, _, e, _⟩ := mi7.fo
      rw [e]
      exact Nat.succ_pos _
  · rintro σ H' ⟨qs, lvs, o6, o7, o8, o9, o10, rfl, mi, hq1, hq2⟩
    obtain ⟨r0, vs, t, f1, e1, e2, e3, e4, e5, e6⟩ := mi.out
    refine ⟨_, rfl, R, _, 0, .ref r0, rfl, rfl, SqL.of mi.rows, atI_nat (j := 0) e1, r0, vs, t, 1, f1, rfl, e2, e3, by omega, by omega, fun H7 p bs sm hs hS => ?_⟩
    have kb : KeepB tp g H H7 := fun y o h1 h2 h3 => sm _ _ (mi.kp y o h1 h2 h3)
    have hT7 := mi.tape.same sm
    refine ⟨_, rfl, _, _, rfl, rfl, _, rfl, ?_⟩
    refine ite2 (fun c => ?_) (fun c => ?_)
    · refine ⟨_, rfl, (by show 1 ≤ sizeLine; decide), fun tq htq => ?_⟩
      have s8 : Same H7 (upd H7 tq (.tup [.ref p])) := same_new htq
      have g2 : (Dt.c t .o).good 1 = true := by
        have e6' : (here 1 t && deep 1 t) = true := e6
        show (here 1 (Dt.c t .o) && (here 1 t && deep 1 t && true)) = true
        rw [e6']
        rfl
      exact q _ (.ref tq) (.c t .o) (hT7.same s8) (fun y o h1 h2 h3 => s8 _ _ (kb y o h1 h2 h3)) ⟨tq, _, rfl, SqT.of upd_same, .cons (same_sqt s8 hs) (hS.keep (KeepT.of_same s8)) .nil⟩ g2 (show max (t.ht + 1) 0 ≤ 12 by omega) (show t.nodes + 1 ≤ 64 by omega)
    · exact ⟨_, rfl, q _ (.ref p) t hT7 kb ⟨p, bs, rfl, hs, hS⟩ e6 (by omega) (by omega)⟩
end
end K19

set_option Elab.async false
set_option linter.all false
set_option maxRecDepth 100000
set_option maxHeartbeats 4000000
namespace K19R
open PySem PySem.Spec PyProof.Rows PySem.W
open Sem (wp)
/-- a tuple of whole numbers -/
def IsTI (h : Heap) (v : Value) (ns : List Int) : Prop := ∃ (a : Addr) (dd : Option Addr) (its : Array Value) (n : Nat) (sl : Array (Option Value)), v = .ref a ∧ h.get? a = some { cls := .type "tuple", dict := dd, data := .seq its n, slots := sl } ∧ IntsAre its.toList ns
theorem IsTI.keeps {h h' : Heap} {v : Value} {ns : List Int} (t : IsTI h v ns) (k : ∀ b o, v = .ref b → h.get? b = some o → h'.get? b = some o) : IsTI h' v ns := by
  obtain ⟨a, dd, its, n, sl, e, g, i⟩ := t
  exact ⟨a, dd, its, n, sl, e, k a _ e g, i⟩
theorem mapM_each {M : Model} {A : Around} {E : Value → Shared → Prop} {s : Shared} {β : Type} {f : Value → Sem β} {g : Value → β} : ∀ (l : List Value) {Q : List β → Shared → Prop}, (∀ v ∈ l, ∀ Q' : β → Shared → Prop, Q' (g v) s → wpAny M A (f v) Q' E s) → Q (l.map g) s → wpAny M A (l.mapM f) Q E s
  | [], Q, _, h => by
    rw [List.mapM_nil]
    exact wpAny_pure h
  | x :: l, Q, hf, h => by
    rw [List.mapM_cons]
    exact wpAny_bind (hf x (.head _) _ (wpAny_bind (mapM_each l (Q := fun bs s' => wpAny M A (pure (g x :: bs)) Q E s') (fun v hv => hf v (.tail _ hv)) (wpAny_pure h))))
def seqOf (o : Obj) : Array Value := match o.data with | .seq xs _ => xs | _ => #[]
def addrOf : Value → Option Addr | .ref a => some a | _ => none
def itemsOf (h : Heap) (v : Value) : Array Value := (((addrOf v).bind h.get?).map seqOf).getD #[]
theorem itemsOf_at {h : Heap} {a : Addr} {o : Obj} (g : h.get? a = some o) : itemsOf h (.ref a) = seqOf o := by
  show ((h.get? a).map seqOf).getD #[] = seqOf o
  rw [g]
  rfl
/-- the first item -/
def fstOf (h : Heap) (v : Value) : Option Value := (itemsOf h v)[0]?
section
variable {prog : Program} {w : World} {A : Around} {E : Value → Shared → Prop} {s : Shared}
theorem first_ti {M : Model} {v : Value} {ns : List Int} {Q : Option Value → Shared → Prop} (h : IsTI s.heap v ns) (q : Q (fstOf s.heap v) s) : wpAny M A (firstOfTuple' v) Q E s := by
  obtain ⟨a, dd, its, n, sl, rfl, g, i⟩ := h
  rw [kas_first_eq]
  refine wpAny_bind (wpAny_typeOf ⟨_, g, rfl⟩ ?_)
  rw [if_neg (by decide)]
  refine wpAny_bind (listItems_at g rfl ?_)
  refine wpAny_pure ?_
  unfold fstOf at q
  rw [itemsOf_at g] at q
  exact q
theorem kind_ti {v₀ : Value} {vs : List Value} {k : Value → List Int} {Q : SortKind → Shared → Prop} (h0 : k v₀ = []) (hv : ∀ v ∈ v₀ :: vs, IsTI s.heap v (k v)) (h : Q oneType' s) : wpAny (model prog w) A (keyKind' (v₀ :: vs).toArray) Q E s := by
  have f0 : fstOf s.heap v₀ = none := by
    obtain ⟨a, dd, its, n, sl, rfl, g, i⟩ := hv v₀ (by simp)
    rw [h0] at i
    unfold fstOf
    rw [itemsOf_at g]
    have e : its = #[] := by
      cases its with
      | mk l =>
        cases l with
        | nil => rfl
        | cons a b => cases i
    show its[0]? = none
    rw [e]
    rfl
  rw [keyKind'_eq, List.mapM_toArray, map_eq_pure_bind]
  refine wpAny_bind (wpAny_bind (mapM_each (g := fstOf s.heap) _ (fun v hm Q' hq => first_ti (hv v hm) hq) (wpAny_pure ?_)))
  rw [if_neg (by simp [f0]), if_neg (by simp [f0])]
  rw [oneTypeOnly'_eq, List.mapM_toArray, map_eq_pure_bind]
  refine wpAny_bind (wpAny_bind (wpAny_bind (mapM_each (g := fun _ => Value.type "tuple") _ (fun v hm Q' hq => ?_) (wpAny_pure ?_))))
  · obtain ⟨a, dd, its, n, sl, rfl, g, i⟩ := hv v hm
    exact wpAny_typeOf ⟨_, g, rfl⟩ hq
  have hall : ((List.map (fun _ => Value.type "tuple") (v₀ :: vs)).toArray.all fun x => x == Value.type "tuple") = true := by
    simp only [List.all_toArray, List.all_map, List.all_eq_true]
    intro _ _
    rfl
  have e0 : (List.map (fun _ => Value.type "tuple") (v₀ :: vs)).toArray[0]? = some (Value.type "tuple") := by simp
  rw [e0]
  simp only [hall, if_true]
  exact wpAny_pure (wpAny_pure h)
theorem lt_ti {v u : Value} {ns ms : List Int} {Q : Bool → Shared → Prop} (hu : A.units < cLine) (hv : IsTI s.heap v ns) (hw : IsTI s.heap u ms) (h : Q (HT.lexLt ns ms) s) : wpAny (model prog w) A (keyLt' oneType' v u) Q E s := by
  obtain ⟨a, dd, its, n, sl, rfl, ga, ia⟩ := hv
  obtain ⟨b, dd2, its2, n2, sl2, rfl, gb, ib⟩ := hw
  rw [keyLt'_oneType, oneLt'_eq]
  simp only [if_true]
  refine wpAny_bind (wpAny_cRoomFor hu ?_)
  refine wpAny_bind (wpAny_callSpecialIfBound?_slot ⟨_, ga, rfl⟩ PySem.F.slot_tuple_lt (call_meets PySem.F.slot_tuple_lt ⟨_, ga, rfl⟩ PySem.F.entry_tuple_lt (PySem.F.args_tuple_lt_2 _ _) (HT.tuple_lt_ints a b its its2 n n2 dd dd2 sl sl2 ns ms ia ib) ⟨ga, gb, ?_⟩))
  exact wpAny_truthy_bool h
theorem cmp_ti {vs : List Value} {k : Value → List Int} (hu : A.units < cLine) (hv : ∀ v ∈ vs, IsTI s.heap v (k v)) : SrtO.Cmp prog w A s oneType' (fun p => p.1 ∈ vs) (SrtO.lt2 fun v u => HT.lexLt (k v) (k u)) := by
  intro p q hp hq
  exact lt_ti (Q := fun r s' => s' = s ∧ r = HT.lexLt (k p.1) (k q.1)) (E := fun _ _ => False) hu (hv p.1 hp) (hv q.1 hq) ⟨rfl, rfl⟩
theorem sortable_ti {a : Addr} {v₀ : Value} {vs : List Value} {k : Value → List Int} (hu : A.units < cLine) (h0 : k v₀ = []) (hv : ∀ v ∈ v₀ :: vs, IsTI s.heap v (k v)) (ha : ∀ v ∈ v₀ :: vs, v ≠ .ref a) :
    SrtO.SortableO prog w A s a (v₀ :: vs) fun v u => HT.lexLt (k v) (k u) := by
  intro h' keep
  have hv' : ∀ v ∈ v₀ :: vs, IsTI h' v (k v) := fun v hm => (hv v hm).keeps fun b o e g => keep b o (fun z => ha v hm (by rw [e, z])) g
  exact ⟨oneType', fun Q E hq => kind_ti (s := { s with heap := h' }) h0 hv' hq, cmp_ti (s := { s with heap := h' }) hu hv'⟩
end
/-- the numbers of a tuple -/
def intOf : Value → Int | .int n _ => n | _ => 0
def intsOf (h : Heap) (v : Value) : List Int := (itemsOf h v).toList.map intOf
theorem intsAre_of {l : List Value} {ns : List Int} (h : IntsAre l ns) : l.map intOf = ns := by
  induction h with
  | nil => rfl
  | cons n t _ ih => exact congrArg (n :: ·) ih
theorem intsOf_ti {h : Heap} {v : Value} {ns : List Int} (t : IsTI h v ns) : intsOf h v = ns := by
  obtain ⟨a, dd, its, n, sl, rfl, g, i⟩ := t
  unfold intsOf
  rw [itemsOf_at g]
  exact intsAre_of i
end K19R
namespace L2
open PySem PySem.Spec PyProof.Rows K19R
/-- sorted(xs), xs tuples of whole numbers that stand in order already, the first of them () : a new list of the same -/
def rSortedT (K : PySem.W.Frag) : List V → Hp → VK → Prop := fun vs H Q => ∃ (a : Addr) (xs : List V) (ks : List (List Int)), vs = [V.ref a] ∧ SqL K H a xs ∧ Paired (fun x ns => ∃ t, x = V.ref t ∧ SqT K H t (ns.map V.int)) xs ks ∧ ks.head? = some [] ∧
  ks.Pairwise (fun p q => HT.lexLt q p = false) ∧ ∀ p, H p = none → Q (.ref p) (upd H p (.lst xs))
theorem paired_vals {K : PySem.W.Frag} {X : Cx} {pins : List (Addr × Obj)} {σ : St} {H : Hp} {s : Shared} (I : Inv X pins σ H s) : ∀ {xs : List V} {ks : List (List Int)} {us : List Value}, Paired (fun x ns => ∃ t, x = V.ref t ∧ SqT X.K H t (ns.map V.int)) xs ks → Vals xs us → Paired (fun u ns => IsTI s.heap u ns) us ks
  | _, _, _, .nil, r => by
    cases r
    exact .nil
  | _, _, _, .cons h t, r => by
    cases r with
    | cons r1 r2 =>
      obtain ⟨a, rfl, h2⟩ := h
      cases r1
      obtain ⟨its, rv, ⟨o, ho, hc, n, hd⟩, _⟩ := I.tuple h2
      refine .cons ⟨a, o.dict, its.toArray, n, o.slots, rfl, ?_, L2.intsAre_of rv⟩ (paired_vals (K := K) I t r2)
      rw [ho]
      cases o
      simp only at hc hd
      subst hc hd
      rfl
section
variable {X : Cx}
theorem paired_mem {α β : Type} {F : α → β → Prop} : ∀ {l : List α} {m : List β}, Paired F l m → ∀ a ∈ l, ∃ b, F a b
  | _, _, .nil, a, h => by simp at h
  | _, _, .cons r t, a, h => by
    rcases List.mem_cons.mp h with rfl | h
    · exact ⟨_, r⟩
    · exact paired_mem t a h
theorem paired_ints {h : Heap} : ∀ {us : List Value} {ks : List (List Int)}, Paired (fun u ns => IsTI h u ns) us ks → us.map (intsOf h) = ks
  | _, _, .nil => rfl
  | _, _, .cons r t => by rw [List.map_cons, intsOf_ti r, paired_ints t]
theorem cr_sortedT (hu : X.A.units + 64 < cLine) : CallR X (.builtin "sorted") (rSortedT X.K) := by
  intro pins s σ H vs us Q I r h
  obtain ⟨a, xs, ks, rfl, hs, hx, h0, hp, q⟩ := h
  obtain ⟨its, rv, hl, hz⟩ := I.list hs
  obtain ⟨u, rfl, ru⟩ := vals1 r
  obtain rfl : u = Value.ref a := ru
  have hlen : its.length ≤ sizeLine := by rw [← rv.length]; exact hz
  have hpv := paired_vals (K := X.K) I hx rv
  have hk := paired_ints hpv
  have hti : ∀ v ∈ its, IsTI s.heap v (intsOf s.heap v) := fun v hm => by
    obtain ⟨ns, t⟩ := paired_mem hpv v hm
    rw [intsOf_ti t]
    exact t
  have hsr : SrtO.Srtd (fun v u => HT.lexLt (intsOf s.heap v) (intsOf s.heap u)) its := by
    have := hp
    rw [← hk] at this
    exact List.pairwise_map.mp this
  refine SrtO.sorted_ord (NtL.swo_lexL fun u => intsOf s.heap u) hl.isList hlen (fun h2 h₁ b ho kk => ?_) fun out h1 h2 => ?_
  · cases its with
    | nil => exact absurd h2 (by simp)
    | cons v₀ vs =>
      have e0 : intsOf s.heap v₀ = [] := by
        rw [← hk] at h0
        simpa using h0
      refine sortable_ti (s := { s with heap := h₁ }) ?_ e0 (fun v hm => (hti v hm).keeps fun c o e g => (kk c o g).2) fun v hm z => ?_
      · show X.A.units + 1 + 1 < cLine
        omega
      · obtain ⟨c, dd, its2, n, sl, e, g, i⟩ := hti v hm
        rw [z] at e
        cases e
        exact (kk b _ g).1 rfl
  · have eo := SrtO.stb_uniq (NtL.swo_lexL fun u => intsOf s.heap u) h1 hsr h2
    subst eo
    obtain ⟨n, hn⟩ := sortedAll_at s.heap out out.toArray
    refine ⟨.ref (s.heap.objs.size + 1), upd H (s.heap.objs.size + 1) (.lst xs), I.laid (t' := s.toks) (fun b o e => sortedAll_old e) (Nat.le_succ _) ⟨hz, out, n, rv, hn⟩, rfl, q _ (I.hok.fresh (Nat.le_succ _))⟩
end
end L2

set_option Elab.async false
set_option linter.all false
set_option maxRecDepth 100000
set_option maxHeartbeats 4000000
namespace K19
open PySem PySem.Spec PyProof.Rows L2 Dt
/-! ### addresses as values -/
def adV (q : Ad) : List V := (zs q).map V.int
def PlV (K : PySem.W.Frag) (H : Hp) (v : V) (q : Ad) : Prop := ∃ a, v = .ref a ∧ SqT K H a (adV q)
theorem PlV.keep {K : PySem.W.Frag} {H H' : Hp} {v : V} {q : Ad} (h : PlV K H v q) (e : KeepT H H') : PlV K H' v q := by
  obtain ⟨a, h1, h2⟩ := h
  exact ⟨a, h1, kt_sqt e h2⟩
theorem adV_len (q : Ad) : (adV q).length = q.length := by simp [adV, zs]
theorem adV_at {q : Ad} {i n : Nat} (h : q[i]? = some n) : (adV q)[i]? = some (.int (n : Nat)) := by
  unfold adV zs
  rw [List.getElem?_map, List.getElem?_map, h]
  rfl
theorem adV_cons (i : Nat) (q : Ad) : [V.int (i : Nat)] ++ adV q = adV (i :: q) := rfl
theorem adV_snoc (q : Ad) (i : Nat) : adV q ++ [V.int (i : Nat)] = adV (q ++ [i]) := by simp [adV, zs]
theorem adV_take (q : Ad) (k : Nat) : (adV q).take k = adV (q.take k) := by simp [adV, zs, List.map_take]
theorem sh_lens {T : Dt} : T.len < T.nodes := len_lt_nodes T
theorem take_rows (f : Dt → List Ad) {u k : Dt} {i : Nat} (h : u.kids[i]? = some k) : rowsN f u (i + 1) = rowsN f u i ++ (f k).map (List.cons i) := by
  show rowsN f u i ++ (match u.kids[i]? with | some k => (f k).map (List.cons i) | none => []) = _
  rw [h]
theorem rows_le (u : Dt) (i : Nat) (h : i ≤ u.len) : (rowsN Dt.ad u i).length + 1 ≤ u.nodes := by
  have h1 := rowsN_le (f := Dt.ad) (u := u) h
  have h2 := ad_len u
  rw [ad_rows, List.length_cons] at h2
  omega
theorem keep_lst {H : Hp} {l : Addr} {xs : List V} {o : HO} (h : H l = some (.lst xs)) : KeepT H (upd H l o) := fun y zs' =>
  ⟨fun e => by rw [upd_ne (fun z => by rw [z, h] at e; exact HO.noConfusion (Option.some.inj e))]; exact e, fun o e => by rw [upd_ne (fun z => by rw [z, h] at e; exact HO.noConfusion (Option.some.inj e))]; exact e⟩
theorem len_idx : ∀ (T : Dt) (p : Ad) (u : Dt), sub T p = some u → p.length ≤ idx T p
  | t, [], u, h => Nat.zero_le _
  | c k r, 0 :: p, u, h => by
    have := len_idx k p u h
    show p.length + 1 ≤ 1 + idx k p
    omega
  | c k r, (j + 1) :: p, u, h => by
    have := len_idx r (j :: p) u h
    have h2 : (j :: p).length = p.length + 1 := rfl
    show p.length + 1 ≤ k.nodes + idx r (j :: p)
    omega
  | o, j :: p, u, h => by rw [sub_o] at h; cases h
  | x, j :: p, u, h => by rw [sub_x] at h; cases h
def spPlaces (K : PySem.W.Frag) (n : Nat) : Sp := fun vs H Q _ => ∃ (v : V) (T : Dt), vs = [v] ∧ ShV K H v T ∧ T.ht < n ∧ T.nodes ≤ 1000 ∧ ∀ H' p xs, Same H H' → H p = none → H' p = some (.lst xs) → Paired (PlV K H') xs (ad T) → Q (.ref p) H'
section
variable {P : Program} {w : World} {K : PySem.W.Frag} {mg : Str → Option Value} {base : Heap}
theorem ok_places_step {n : Nat} (D : DefAt K mg "_law_places" s_law_places ["shape"]) (T : Txt K mg) (G : CalX P w K mg base CX0 n "_law_places" ["shape"] (spPlaces K n)) : CalX P w K mg base CX0 (n + 1) "_law_places" ["shape"] (spPlaces K (n + 1)) := by
  refine D.ok sc_law_places (fun vs H Q E h => ?_) (fun f cdv A outer s H vs Q E hr h => ?_)
  · obtain ⟨v, t, rfl, _⟩ := h
    rfl
  obtain ⟨v, t, rfl, ⟨b, bs, rfl, hb, hS⟩, hh, hn, q⟩ := h
  refine ⟨_, pss_cons (ps_set (i := 1) sc_law_places.nd rfl (.inl rfl) (pe_lst (pa_cons (pe_tup pa_nil) pa_nil)))
    (pss_cons (ps_for PassesOwn.never rfl (pi_range1 rfl T.range (pa_cons (pe_callB call_len_seq (by rfl) T.len PySem.boot_len (pa_cons (pv 0) pa_nil)) pa_nil)) (pg_name (i := 2) sc_law_places.nd rfl (Or.inl rfl))
      (pss_one (ps_for PassesOwn.never rfl (pi_list (pe_c0 G hr (Nat.le_refl _) rfl (pa_cons (pe_ix ix_tup (pv 0) (pv 2) (fun _ _ => rfl)) pa_nil))) (pg_name (i := 3) sc_law_places.nd rfl (Or.inl rfl))
        (pss_one (ps_expr (pe_bm PySem.F.plainAttrs_list PySem.F.slot_list_append PySem.F.type_list_append mt_append (pv 1) (pa_cons (pe_op op_catA (pe_tup (pa_cons (pv 2) pa_nil)) (pv 3)) pa_nil)))))))
    (pss_one (ps_ret (pe_callB (cr_sortedT hr.units) (by rfl) T.sorted (by decide +kernel) (pa_cons (pv 1) pa_nil))))), ?_⟩
  have hbl : bs.length = t.len := hS.len
  have hsl := sizeLine_eq
  have htl := len_lt_nodes t
  -- places = [()]
  refine ⟨(by show 0 ≤ sizeLine; decide), fun t0 ht0 => ⟨(by show 1 ≤ sizeLine; decide), fun Ls hLs => ?_⟩⟩
  have s0 : Same H (upd H t0 (.tup [])) := same_new ht0
  have s1 : Same (upd H t0 (.tup [])) (upd (upd H t0 (.tup [])) Ls (.lst [.ref t0])) := same_new hLs
  have hL0 := s0.free hLs
  refine ⟨_, rfl, b, bs, rfl, .inr (same_sqt (s0.trans s1) hb), _, rfl, by omega, by omega, ?_⟩
  rw [hbl]
  refine for_range (lo := 0) (n := t.len) (fun i σ H' => ∃ (xs : List V) (o2 o3 : Option V), σ = [some (.ref b), some (.ref Ls), o2, o3] ∧ Same H H' ∧ H' Ls = some (.lst xs) ∧ Paired (PlV K H') xs ([] :: rowsN Dt.ad t i))
    ⟨[.ref t0], none, none, rfl, s0.trans s1, upd_same, .cons ⟨t0, rfl, SqT.of (s1 _ _ upd_same)⟩ .nil⟩ ?_ ?_
  · rintro i σ H' hi ⟨xs, o2, o3, rfl, sm, hL, hp⟩
    have hi' : i < bs.length := by omega
    obtain ⟨k, hk, hsv⟩ := hS.at i bs[i] (List.getElem?_eq_getElem hi')
    have hkh := ht_kid t i k hk
    have hkn := (idx_one t i k hk).2.1
    refine ⟨_, rfl, _, rfl, b, bs, _, _, rfl, rfl, same_sqt sm hb, (by rw [Int.zero_add]; exact atI_nat (List.getElem?_eq_getElem hi')), bs[i], k, rfl, hsv.keep (KeepT.of_same sm), by omega, by omega, fun H2 Lk ys sm2 hLk0 hLk hpk => ?_⟩
    have hlk := Paired.len hpk
    refine ⟨Lk, rfl, ⟨_, SqL.of hLk⟩, for_list (K := K) (a := Lk) (xs := ys) (fun j σ H3 => ∃ (xs3 : List V) (o3 : Option V), σ = [some (.ref b), some (.ref Ls), some (.int (0 + (i : Nat))), o3] ∧ Same H H3 ∧ KeepT H2 H3 ∧ H3 Lk = some (.lst ys) ∧ H3 Ls = some (.lst xs3) ∧ Paired (PlV K H3) xs3 ([] :: (rowsN Dt.ad t i ++ ((ad k).take j).map (List.cons i))))
      ⟨xs, o3, rfl, sm.trans sm2, KeepT.refl _, hLk, sm2 _ _ hL, by
        rw [List.take_zero, List.map_nil, List.append_nil]
        exact Paired.mono (fun v q c => c.keep (KeepT.of_same sm2)) hp⟩ (fun j σ H3 _ ⟨_, _, _, _, _, h, _⟩ => SqL.of h) ?_ ?_⟩
    · rintro j y σ H3 hj ⟨xs3, o3', rfl, sm3, kt3, hLk3, hL3, hp3⟩
      have hjl := (List.getElem?_eq_some_iff.mp hj).1
      rw [hlk] at hjl
      obtain ⟨y', e1, ya, rfl, ys'⟩ := Paired.at hpk (List.getElem?_eq_getElem hjl)
      obtain rfl : y = V.ref ya := Option.some.inj (hj.symm.trans e1)
      have hy3 := kt_sqt kt3 ys'
      refine ⟨_, rfl, .inl ⟨rfl, _, SqL.of hL3⟩, _, rfl, (by show 1 ≤ sizeLine; decide), fun t1 ht1 => ?_⟩
      have s3 : Same H3 (upd H3 t1 (.tup [.int (0 + (i : Nat))])) := same_new ht1
      have e0 : ([V.int (0 + (i : Nat))] : List V) = [V.int (i : Nat)] := by rw [Int.zero_add]
      have hq : ((ad k)[j]).length ≤ t.nodes := by
        have hm := List.getElem_mem hjl
        obtain ⟨u, hu⟩ := ad_sub hm
        have h1 := len_idx k _ u hu
        have h2 := idx_lt hu
        have := u.nodes_pos
        omega
      refine ⟨_, rfl, rCatA_all (SqT.of upd_same) (same_sqt s3 hy3) (by rw [adV_len]; show 1 + _ ≤ sizeLine; omega) fun tp H4 sm4 htp => ?_⟩
      rw [e0, adV_cons] at htp
      have hL4 := sm4 _ _ (s3 _ _ hL3)
      have hlp := Paired.len hp3
      have hrl := rows_le t (i + 1) (by omega)
      rw [take_rows Dt.ad hk, List.length_append, List.length_map] at hrl
      have hlx : xs3.length ≤ 1000 := by
        rw [hlp, List.length_cons, List.length_append, List.length_map, List.length_take]
        omega
      refine ⟨Ls, _, _, rfl, rfl, hL4, small1000 hlx, ?_⟩
      have smA := (s3.trans sm4)
      have kA : KeepT H3 (upd H4 Ls (.lst (xs3 ++ [.ref tp]))) := (KeepT.of_same smA).trans (keep_lst hL4)
      refine ⟨xs3 ++ [.ref tp], _, rfl, ?_, kt3.trans kA, ?_, upd_same, ?_⟩
      · exact same_mut (sm3.trans smA) hL0
      · have hne : Lk ≠ Ls := fun z => by
          rw [z, hL] at hLk0
          exact nomatch hLk0
        rw [upd_ne hne]
        exact smA _ _ hLk3
      · have e : ((ad k).take (j + 1)).map (List.cons i) = ((ad k).take j).map (List.cons i) ++ [i :: (ad k)[j]] := by
          rw [List.take_add_one, List.getElem?_eq_getElem hjl, List.map_append]
          rfl
        rw [e, ← List.append_assoc]
        exact Paired.app (l₂ := [] :: (rowsN Dt.ad t i ++ ((ad k).take j).map (List.cons i))) (Paired.mono (fun v q c => c.keep kA) hp3) (.cons ⟨tp, rfl, kt_sqt (keep_lst hL4) htp⟩ .nil)
    · rintro σ H3 ⟨xs3, o3', rfl, sm3, kt3, hLk3, hL3, hp3⟩
      refine ⟨xs3, _, _, rfl, sm3, hL3, ?_⟩
      rw [hlk, List.take_length, ← take_rows Dt.ad hk] at hp3
      exact hp3
  · rintro σ H' ⟨xs, o2, o3, rfl, sm, hL, hp⟩
    rw [← ad_rows] at hp
    refine ⟨_, rfl, Ls, xs, (ad t).map zs, rfl, SqL.of hL, ?_, ?_, ?_, fun p hp2 => ?_⟩
    · have : ∀ {l : List V} {m : List Ad}, Paired (PlV K H') l m → Paired (fun x ns => ∃ t, x = V.ref t ∧ SqT K H' t (ns.map V.int)) l (m.map zs) := by
        intro l m h
        induction h with
        | nil => exact .nil
        | cons r _ ih => exact .cons r ih
      exact this hp
    · rw [ad_rows]
      rfl
    · exact List.pairwise_map.mpr ((ad_asc t).imp fun {a b} h => lt_asym a b h)
    · exact q _ p xs (sm.trans (same_new hp2)) (sm.free hp2) upd_same (Paired.mono (fun v q c => c.keep (KeepT.of_same (same_new hp2))) hp)
theorem ok_places (D : DefAt K mg "_law_places" s_law_places ["shape"]) (T : Txt K mg) : ∀ n : Nat, CalX P w K mg base CX0 n "_law_places" ["shape"] (spPlaces K n)
  | 0 => by
    obtain ⟨f, fd, F, m, b⟩ := D.ex
    have no : ∀ vs H Q E, ¬ spPlaces K 0 vs H Q E := fun vs H Q E h => by
      obtain ⟨v, t, _, _, h, _⟩ := h
      exact absurd h (Nat.not_lt_zero _)
    exact ⟨f, fd, ⟨fun vs H Q E h => absurd h (no vs H Q E), fun A outer s H args us vs Q E _ _ _ _ h => absurd h (no vs H Q E)⟩, m, F.kp, b⟩
  | n + 1 => ok_places_step D T (ok_places D T n)
end
end K19

set_option Elab.async false
set_option linter.all false
set_option maxRecDepth 100000
set_option maxHeartbeats 4000000
namespace K19
open PySem PySem.Spec PyProof.Rows L2 Dt
/-! ### data -/
def adD (q : Ad) : PyData := .tuple ((zs q).map PyData.int)
theorem eqvAll_ints : ∀ a b : List Int, PyData.eqvAll (a.map PyData.int) (b.map PyData.int) = decide (a = b)
  | [], [] => by simp [PyData.eqvAll]
  | [], _ :: _ => by simp [PyData.eqvAll]
  | _ :: _, [] => by simp [PyData.eqvAll]
  | i :: a, j :: b => by
    show PyData.eqvAll (PyData.int i :: a.map PyData.int) (PyData.int j :: b.map PyData.int) = _
    unfold PyData.eqvAll
    rw [eqvAll_ints a b]
    unfold PyData.eqv
    by_cases h1 : i = j <;> by_cases h2 : a = b <;> simp [h1, h2]
theorem zs_inj : ∀ {p q : Ad}, zs p = zs q → p = q
  | [], [], _ => rfl
  | [], _ :: _, h => nomatch h
  | _ :: _, [], h => nomatch h
  | i :: p, j :: q, h => by
    injection h with h1 h2
    injection h1 with h1
    rw [h1, zs_inj h2]
theorem eqv_ad (p q : Ad) : PyData.eqv (adD p) (adD q) = decide (p = q) := by
  unfold adD PyData.eqv
  rw [eqvAll_ints]
  exact decide_eq_decide.mpr ⟨zs_inj, fun h => by rw [h]⟩
theorem lay_ints : ∀ a : List Int, PyData.canLayAll0 (a.map PyData.int) = true ∧ PyData.depthAll (a.map PyData.int) = 0
  | [] => by simp [PyData.canLayAll0, PyData.depthAll]
  | i :: a => by
    obtain ⟨h1, h2⟩ := lay_ints a
    refine ⟨?_, ?_⟩
    · show PyData.canLayAll0 (PyData.int i :: a.map PyData.int) = true
      unfold PyData.canLayAll0
      rw [h1]
      simp [PyData.canLay0]
    · show PyData.depthAll (PyData.int i :: a.map PyData.int) = 0
      unfold PyData.depthAll
      rw [h2]
      simp [PyData.depth]
theorem ad_lay (q : Ad) : PyData.canLay0 (adD q) = true ∧ PyData.depth (adD q) = 1 := by
  obtain ⟨h1, h2⟩ := lay_ints (zs q)
  unfold adD PyData.canLay0 PyData.depth
  exact ⟨h1, by rw [h2]⟩
theorem shaped_ad (q : Ad) : SeqAt.shaped (adD q) = true := by
  unfold SeqAt.shaped
  rw [(ad_lay q).1, (ad_lay q).2]
  rfl
theorem lay_ads : ∀ l : List Ad, PyData.canLayAll0 (l.map adD) = true ∧ PyData.depthAll (l.map adD) ≤ 1
  | [] => by simp [PyData.canLayAll0, PyData.depthAll]
  | q :: l => by
    obtain ⟨h1, h2⟩ := lay_ads l
    refine ⟨?_, ?_⟩
    · show PyData.canLayAll0 (adD q :: l.map adD) = true
      unfold PyData.canLayAll0
      rw [h1, (ad_lay q).1]
      rfl
    · show PyData.depthAll (adD q :: l.map adD) ≤ 1
      unfold PyData.depthAll
      rw [(ad_lay q).2]
      omega
theorem shaped_ads (l : List Ad) : SeqAt.shaped (.list (l.map adD)) = true := by
  obtain ⟨h1, h2⟩ := lay_ads l
  unfold SeqAt.shaped PyData.canLay0 PyData.depth
  rw [h1, decide_eq_true (by omega)]
  rfl
theorem dpall_ints {K : PySem.W.Frag} {H : Hp} : ∀ ns : List Int, DpAll K H (ns.map V.int) (ns.map PyData.int)
  | [] => .nil
  | n :: ns => .cons (.int n) (dpall_ints ns)
theorem PlV.dp {K : PySem.W.Frag} {H : Hp} {v : V} {q : Ad} (h : PlV K H v q) : Dp K H v (adD q) := by
  obtain ⟨a, rfl, h⟩ := h
  exact .tup h (dpall_ints _)
theorem dpall_ads {K : PySem.W.Frag} {H : Hp} {xs : List V} {l : List Ad} (h : Paired (PlV K H) xs l) : DpAll K H xs (l.map adD) := by
  induction h with
  | nil => exact .nil
  | cons r _ ih => exact .cons r.dp ih
/-! ### slices -/
theorem cut_take (xs : List V) (k : Nat) : cutV xs none (some (k : Int)) = xs.take k := by
  unfold cutV
  rw [HT.sIx_none, HT.sIx_nat]
  show (xs.drop 0).take (min k xs.length - 0) = _
  rw [List.drop_zero, Nat.sub_zero]
  by_cases h : k ≤ xs.length
  · rw [Nat.min_eq_left h]
  · rw [Nat.min_eq_right (by omega), List.take_length, List.take_of_length_le (by omega)]
theorem cut_drop1 (xs : List V) : cutV xs (some 1) none = xs.drop 1 := by
  unfold cutV
  rw [HT.sIx_none, show (some (1 : Int)) = some ((1 : Nat) : Int) from rfl, HT.sIx_nat]
  cases xs with
  | nil => rfl
  | cons x r =>
    have e : min 1 (x :: r).length = 1 := by simp
    rw [e]
    exact List.take_of_length_le (by simp)
theorem rSlA_all {K : PySem.W.Frag} {H : Hp} {a : Addr} {xs : List V} {lo hi : Option Int} {Q : VK} (ha : SqT K H a xs) (h : ∀ tp H2, Same H H2 → SqT K H2 tp (cutV xs lo hi) → Q (.ref tp) H2) : rSlA K (.ref a) lo hi H Q := by
  refine ⟨a, xs, rfl, ha, fun e => ?_, fun e p hp => h p _ (same_new hp) (SqT.of upd_same)⟩
  refine h a H (fun _ _ z => z) ?_
  have : cutV xs lo hi = xs := by
    unfold cutV
    rw [e.1, e.2, List.drop_zero, Nat.sub_zero, List.take_length]
  rw [this]
  exact ha
/-! ### _law_leaves -/
def spLeaves (K : PySem.W.Frag) : Sp := fun vs H Q _ => ∃ (p : Addr) (xs : List V) (T : Dt), vs = [.ref p] ∧ H p = some (.lst xs) ∧ Paired (PlV K H) xs (ad T) ∧ T.nodes ≤ 1000 ∧
  ∀ H' l ys, Same H H' → H l = none → H' l = some (.lst ys) → Paired (PlV K H') ys (lv T) → Q (.ref l) H'
theorem Paired.drop {α β : Type} {F : α → β → Prop} {l : List α} {m : List β} (h : Paired F l m) : Paired F (l.drop 1) (m.drop 1) := by
  cases h with
  | nil => exact .nil
  | cons r t => exact t
section
variable {P : Program} {w : World} {K : PySem.W.Frag} {mg : Str → Option Value} {base : Heap}
theorem ok_leaves (D : DefAt K mg "_law_leaves" s_law_leaves ["places"]) (T : Txt K mg) : CalX P w K mg base CX0 1 "_law_leaves" ["places"] (spLeaves K) := by
  refine D.ok sc_law_leaves (fun vs H Q E h => ?_) (fun f cdv A outer s H vs Q E hr h => ?_)
  · obtain ⟨p, xs, t, rfl, _⟩ := h
    rfl
  obtain ⟨p, xs, t, rfl, hp, hx, hn, q⟩ := h
  refine ⟨_, pss_cons (ps_set (i := 1) sc_law_leaves.nd rfl (.inl rfl) (pe_op op_cat (pe_slice sl_list (pv 0) (po_some pe_int) po_none) (pe_lst (pa_cons (pe_tup pa_nil) pa_nil))))
    (pss_cons (ps_set (i := 2) sc_law_leaves.nd rfl (.inl rfl) (pe_lst pa_nil))
    (pss_cons (ps_for PassesOwn.never rfl (pi_range1 rfl T.range (pa_cons (pe_callB call_len_seq (by rfl) T.len PySem.boot_len (pa_cons (pv 0) pa_nil)) pa_nil)) (pg_name (i := 3) sc_law_leaves.nd rfl (Or.inl rfl))
      (pss_one (ps_if (PW.pt (pw_or (pt_cmpR (op_neD hr.units) (pe_slice sl_tupA (pe_ix ix_list (pv 1) (pv 3) (fun _ _ => rfl)) po_none (po_some (pe_callB call_len_seq (by rfl) T.len PySem.boot_len (pa_cons (pe_ix ix_list (pv 0) (pv 3) (fun _ _ => rfl)) pa_nil)))) (pe_ix ix_list (pv 0) (pv 3) (fun _ _ => rfl)) (nomark _))
          (pw_or1 (pt_cmpR op_eq (pv 3) (pe_op op_sub (pe_callB call_len_seq (by rfl) T.len PySem.boot_len (pa_cons (pv 0) pa_nil)) pe_int) (nomark _)))))
        (pss_one (ps_expr (pe_bm PySem.F.plainAttrs_list PySem.F.slot_list_append PySem.F.type_list_append mt_append (pv 2) (pa_cons (pe_ix ix_list (pv 0) (pv 3) (fun _ _ => rfl)) pa_nil)))) pss_nil)))
    (pss_one (ps_ret (pv 2))))), ?_⟩
  have hl := Paired.len hx
  rw [ad_len] at hl
  have hsl := sizeLine_eq
  -- ahead = places[1:] + [()]
  refine ⟨_, rfl, 1, rfl, p, xs, rfl, SqL.of hp, fun a1 ha1 => ?_⟩
  rw [cut_drop1]
  have s1 : Same H (upd H a1 (.lst (xs.drop 1))) := same_new ha1
  refine ⟨(by show 0 ≤ sizeLine; decide), fun t0 ht0 => ⟨(by show 1 ≤ sizeLine; decide), fun a2 ha2 => ?_⟩⟩
  have s2 : Same (upd H a1 (.lst (xs.drop 1))) (upd (upd H a1 (.lst (xs.drop 1))) t0 (.tup [])) := same_new ht0
  have s3 : Same (upd (upd H a1 (.lst (xs.drop 1))) t0 (.tup [])) (upd (upd (upd H a1 (.lst (xs.drop 1))) t0 (.tup [])) a2 (.lst [.ref t0])) := same_new ha2
  have hA1 := s3 _ _ (s2 _ _ (show (upd H a1 (.lst (xs.drop 1))) a1 = some (.lst (xs.drop 1)) from upd_same))
  have hA2 : (upd (upd (upd H a1 (.lst (xs.drop 1))) t0 (.tup [])) a2 (.lst [.ref t0])) a2 = some (.lst [.ref t0]) := upd_same
  have hT0 := s3 _ _ (show (upd (upd H a1 (.lst (xs.drop 1))) t0 (.tup [])) t0 = some (.tup []) from upd_same)
  have s123 := s1.trans (s2.trans s3)
  revert hA1 hA2 hT0 s123
  generalize upd (upd (upd H a1 (.lst (xs.drop 1))) t0 (.tup [])) a2 (.lst [.ref t0]) = H3
  intro hA1 hA2 hT0 s123
  refine ⟨a1, a2, _, _, rfl, rfl, hA1, hA2, (by rw [List.length_drop, List.length_singleton]; omega), fun a3 ha3 => ?_⟩
  have s4 : Same H3 (upd H3 a3 (.lst (xs.drop 1 ++ [.ref t0]))) := same_new ha3
  have hA3 : (upd H3 a3 (.lst (xs.drop 1 ++ [.ref t0]))) a3 = _ := upd_same
  have hT4 := s4 _ _ hT0
  have sA := s123.trans s4
  revert hA3 hT4 sA
  generalize upd H3 a3 (.lst (xs.drop 1 ++ [.ref t0])) = H4
  intro hA3 hT4 sA
  refine ⟨(by show 0 ≤ sizeLine; decide), fun lv0 hlv0 => ?_⟩
  have s5 : Same H4 (upd H4 lv0 (.lst [])) := same_new hlv0
  have hfr : H lv0 = none := sA.free hlv0
  refine ⟨_, rfl, p, xs, rfl, .inl (SqL.of (s5 _ _ (sA _ _ hp))), _, rfl, by omega, by omega, ?_⟩
  rw [hl]
  refine for_range (lo := 0) (n := t.nodes) (fun i σ H' => ∃ (ys : List V) (o3 : Option V), σ = [some (.ref p), some (.ref a3), some (.ref lv0), o3] ∧ Same H4 H' ∧ H' lv0 = some (.lst ys) ∧ Paired (PlV K H') ys (((ad t).take i).filter (isLf t)))
    ⟨[], none, rfl, s5, upd_same, .nil⟩ ?_ ?_
  · rintro i σ H' hi ⟨ys, o3, rfl, sm, hL, hy⟩
    have hia : i < (ad t).length := by rw [ad_len]; exact hi
    obtain ⟨v, e1, b, rfl, hb⟩ := Paired.at hx (List.getElem?_eq_getElem hia)
    have hpH := sm _ _ (sA _ _ hp)
    have hbH := same_sqt (sA.trans sm) hb
    -- ahead[spot]
    have hax : Paired (PlV K H4) (xs.drop 1 ++ [.ref t0]) ((ad t).drop 1 ++ [[]]) := Paired.app (Paired.drop (Paired.mono (fun v q c => c.keep (KeepT.of_same sA)) hx)) (.cons ⟨t0, rfl, SqT.of hT4⟩ .nil)
    have hal : i < ((ad t).drop 1 ++ [[]]).length := by rw [List.length_append, List.length_drop, ad_len, List.length_singleton]; omega
    obtain ⟨v2, e2, b2, rfl, hb2⟩ := Paired.at hax (List.getElem?_eq_getElem hal)
    have hb2H := same_sqt sm hb2
    have e0 : ∀ n : Nat, (0 : Int) + (n : Int) = (n : Int) := fun n => Int.zero_add _
    refine ⟨_, rfl, _, rfl, a3, _, _, _, rfl, rfl, SqL.of (sm _ _ hA3), (by rw [Int.zero_add]; exact atI_nat e2), _, rfl, _, rfl, p, _, _, _, rfl, rfl, SqL.of hpH, (by rw [Int.zero_add]; exact atI_nat e1), b, _, rfl, .inr hbH, _, rfl, ?_⟩
    refine rSlA_all hb2H fun tp H5 sm5 htp => ?_
    rw [adV_len, cut_take, adV_take] at htp
    refine ⟨_, rfl, _, rfl, p, _, _, _, rfl, rfl, SqL.of (sm5 _ _ hpH), (by rw [Int.zero_add]; exact atI_nat e1), adD (((ad t).drop 1 ++ [[]])[i].take ((ad t)[i]).length), adD (ad t)[i], PlV.dp ⟨tp, rfl, htp⟩, PlV.dp ⟨b, rfl, same_sqt sm5 hbH⟩, shaped_ad _, shaped_ad _, _, rfl, ?_⟩
    rw [eqv_ad]
    have hL5 := sm5 _ _ hL
    have yes : isLf t (ad t)[i] = true → ∀ H6, H6 = H5 → ∃ (ys' : List V) (o3' : Option V), [some (V.ref p), some (V.ref a3), some (V.ref lv0), some (V.int (0 + (i : Nat)))] = [some (V.ref p), some (V.ref a3), some (V.ref lv0), o3'] ∧ Same H4 (upd H6 lv0 (.lst (ys ++ [.ref b]))) ∧ (upd H6 lv0 (.lst (ys ++ [.ref b]))) lv0 = some (.lst ys') ∧ Paired (PlV K (upd H6 lv0 (.lst (ys ++ [.ref b])))) ys' (((ad t).take (i + 1)).filter (isLf t)) := by
      rintro hlf H6 rfl
      have kt : KeepT H' (upd H6 lv0 (.lst (ys ++ [.ref b]))) := (KeepT.of_same sm5).trans (keep_lst hL5)
      refine ⟨ys ++ [.ref b], _, rfl, same_mut (sm.trans sm5) hlv0, upd_same, ?_⟩
      rw [List.take_add_one, List.getElem?_eq_getElem hia, List.filter_append]
      have ef : List.filter (isLf t) (some (ad t)[i]).toList = [(ad t)[i]] := by simp [hlf]
      rw [ef]
      exact Paired.app (Paired.mono (fun v q c => c.keep kt) hy) (.cons ⟨b, rfl, kt_sqt kt hbH⟩ .nil)
    have no : isLf t (ad t)[i] = false → ∃ (ys' : List V) (o3' : Option V), [some (V.ref p), some (V.ref a3), some (V.ref lv0), some (V.int (0 + (i : Nat)))] = [some (V.ref p), some (V.ref a3), some (V.ref lv0), o3'] ∧ Same H4 H5 ∧ H5 lv0 = some (.lst ys') ∧ Paired (PlV K H5) ys' (((ad t).take (i + 1)).filter (isLf t)) := by
      intro hlf
      refine ⟨ys, _, rfl, sm.trans sm5, hL5, ?_⟩
      rw [List.take_add_one, List.getElem?_eq_getElem hia, List.filter_append]
      have ef : List.filter (isLf t) (some (ad t)[i]).toList = [] := by simp [hlf]
      rw [ef, List.append_nil]
      exact Paired.mono (fun v q c => c.keep (KeepT.of_same sm5)) hy
    have hyl := Paired.len hy
    have hyl2 : (((ad t).take i).filter (isLf t)).length ≤ i := Nat.le_trans (List.length_filter_le _ _) (by rw [List.length_take]; omega)
    have hlf := leaf_next (List.getElem?_eq_getElem hia)
    by_cases hlast : i + 1 < t.nodes
    · have e3 : ((ad t).drop 1 ++ [[]])[i] = (ad t)[i + 1]'(by rw [ad_len]; exact hlast) := by
        rw [List.getElem_append_left (by rw [List.length_drop, ad_len]; omega), List.getElem_drop]
        congr 1
        omega
      rw [e3]
      by_cases c : (ad t)[i] <+: (ad t)[i + 1]'(by rw [ad_len]; exact hlast)
      · rw [decide_eq_true (pre_take.mpr c)]
        refine iteF ?_
        have hnl : isLf t (ad t)[i] = false := by
          cases z : isLf t (ad t)[i] with
          | false => rfl
          | true => exact absurd c (hlf.mp z _ (List.getElem?_eq_getElem (by rw [ad_len]; exact hlast)))
        refine ⟨_, rfl, _, rfl, p, xs, rfl, .inl (SqL.of (sm5 _ _ hpH)), _, _, rfl, rfl, rfl, _, rfl, ?_⟩
        refine ite2 (fun z => ?_) (fun _ => no hnl)
        have z' := of_decide_eq_true z
        injection z' with z'
        rw [hl] at z'
        omega
      · rw [decide_eq_false (fun z => c (pre_take.mp z))]
        refine iteT (iteT ?_)
        have hyes : isLf t (ad t)[i] = true := hlf.mpr fun q hq => by
          rw [List.getElem?_eq_getElem (by rw [ad_len]; exact hlast)] at hq
          obtain rfl := Option.some.inj hq
          exact c
        refine ⟨_, rfl, .inl ⟨rfl, _, SqL.of hL5⟩, _, rfl, _, rfl, p, _, _, _, rfl, rfl, SqL.of (sm5 _ _ hpH), (by rw [Int.zero_add]; exact atI_nat e1), lv0, _, _, rfl, rfl, hL5, small1000 (by omega), ?_⟩
        exact yes hyes H5 rfl
    · have hyes : isLf t (ad t)[i] = true := hlf.mpr fun q hq => by
        rw [List.getElem?_eq_none (by rw [ad_len]; omega)] at hq
        exact nomatch hq
      have app : ∀ H6, H6 = H5 → _ := yes hyes
      cases (!decide (((ad t).drop 1 ++ [[]])[i].take ((ad t)[i]).length = (ad t)[i])) with
      | true =>
        refine iteT (iteT ?_)
        refine ⟨_, rfl, .inl ⟨rfl, _, SqL.of hL5⟩, _, rfl, _, rfl, p, _, _, _, rfl, rfl, SqL.of (sm5 _ _ hpH), (by rw [Int.zero_add]; exact atI_nat e1), lv0, _, _, rfl, rfl, hL5, small1000 (by omega), ?_⟩
        exact yes hyes H5 rfl
      | false =>
        refine iteF ?_
        refine ⟨_, rfl, _, rfl, p, xs, rfl, .inl (SqL.of (sm5 _ _ hpH)), _, _, rfl, rfl, rfl, _, rfl, ?_⟩
        have z : (decide (V.int (0 + (i : Nat)) = V.int ((xs.length : Nat) - 1))) = true := decide_eq_true (by congr 1; rw [hl]; omega)
        refine ite2 (fun _ => ?_) (fun z2 => absurd z z2)
        refine ⟨_, rfl, .inl ⟨rfl, _, SqL.of hL5⟩, _, rfl, _, rfl, p, _, _, _, rfl, rfl, SqL.of (sm5 _ _ hpH), (by rw [Int.zero_add]; exact atI_nat e1), lv0, _, _, rfl, rfl, hL5, small1000 (by omega), ?_⟩
        exact yes hyes H5 rfl
  · rintro σ H' ⟨ys, o3, rfl, sm, hL, hy⟩
    rw [← ad_len, List.take_length] at hy
    exact ⟨_, rfl, q H' lv0 ys (sA.trans sm) hfr hL hy⟩
/-! ### _law_bough -/
def spBough (K : PySem.W.Frag) : Sp := fun vs H Q _ => ∃ (v pl : V) (T u : Dt) (p : Ad), vs = [v, pl] ∧ ShV K H v T ∧ PlV K H pl p ∧ T.sub p = some u ∧ ∀ r, ShV K H r u → Q r H
theorem ok_bough (D : DefAt K mg "_law_bough" s_law_bough ["shape", "place"]) : CalX P w K mg base CX0 1 "_law_bough" ["shape", "place"] (spBough K) := by
  refine D.ok sc_law_bough (fun vs H Q E h => ?_) (fun f cdv A outer s H vs Q E hr h => ?_)
  · obtain ⟨v, pl, t, u, p, rfl, _⟩ := h
    rfl
  obtain ⟨v, pl, t, u, p, rfl, hv, ⟨a, rfl, ha⟩, hu, q⟩ := h
  refine ⟨_, pss_cons (ps_set (i := 2) sc_law_bough.nd rfl (.inl rfl) (pv 0))
    (pss_cons (ps_for PassesOwn.never rfl (pi_tup (pv 1)) (pg_name (i := 3) sc_law_bough.nd rfl (Or.inl rfl))
      (pss_one (ps_set (i := 2) sc_law_bough.nd rfl (.inl rfl) (pe_ix ix_tup (pv 2) (pv 3) (fun _ _ => rfl)))))
    (pss_one (ps_ret (pv 2)))), ?_⟩
  refine ⟨_, rfl, _, rfl, a, rfl, ⟨_, ha⟩, for_tup (K := K) (a := a) (xs := adV p) (fun i σ H' => ∃ (m : V) (u' : Dt) (o3 : Option V), σ = [some v, some (.ref a), some m, o3] ∧ H' = H ∧ t.sub (p.take i) = some u' ∧ ShV K H m u')
    ⟨v, t, none, rfl, rfl, by rw [List.take_zero]; exact sub_nil t, hv⟩ (fun i σ H' _ ⟨_, _, _, _, e, _⟩ => by rw [e]; exact ha) ?_ ?_⟩
  · rintro i x σ H' hi ⟨m, u', o3, rfl, rfl, hs, b, bs, rfl, hb, hS⟩
    have hil := (List.getElem?_eq_some_iff.mp hi).1
    rw [adV_len] at hil
    rw [adV_at (List.getElem?_eq_getElem hil)] at hi
    obtain rfl := Option.some.inj hi
    have ep : p.take (i + 1) = p.take i ++ [p[i]] := by rw [List.take_add_one, List.getElem?_eq_getElem hil]; rfl
    obtain ⟨u2, hu2⟩ : ∃ u2, t.sub (p.take (i + 1)) = some u2 := by
      refine sub_pre t (p.take (i + 1)) (p.drop (i + 1)) u ?_
      rw [List.take_append_drop]
      exact hu
    have hk := hu2
    rw [ep, (sub_app t (p.take i) u' hs [p[i]]).1, sub_one] at hk
    have hkl := (List.getElem?_eq_some_iff.mp hk).1
    rw [kids_len, ← hS.len] at hkl
    obtain ⟨k, hk2, hsv⟩ := hS.at p[i] bs[p[i]] (List.getElem?_eq_getElem hkl)
    obtain rfl := Option.some.inj (hk.symm.trans hk2)
    exact ⟨_, rfl, _, rfl, b, bs, _, _, rfl, rfl, hb, atI_nat (List.getElem?_eq_getElem hkl), _, u2, _, rfl, rfl, hu2, hsv⟩
  · rintro σ H' ⟨m, u', o3, rfl, rfl, hs, hm⟩
    rw [adV_len, List.take_length, hu] at hs
    obtain rfl := Option.some.inj hs
    exact ⟨_, rfl, q m hm⟩
end
end K19

set_option Elab.async false
set_option linter.all false
set_option maxRecDepth 100000
set_option maxHeartbeats 4000000
namespace K19
open PySem PySem.Spec PyProof.Rows L2 Dt
/-! ### shapes as data -/
def shR : Dt → List PyData | c k r => .tuple (shR k) :: shR r | _ => []
def shD (t : Dt) : PyData := .tuple (shR t)
theorem ShF.dp {K : PySem.W.Frag} {H : Hp} {vs : List V} {t : Dt} (h : ShF K H vs t) : DpAll K H vs (shR t) := by
  induction h with
  | nil => exact .nil
  | cons h _ _ ih1 ih2 => exact .cons (.tup h ih1) ih2
theorem ShV.dp {K : PySem.W.Frag} {H : Hp} {v : V} {t : Dt} (h : ShV K H v t) : Dp K H v (shD t) := by
  obtain ⟨a, vs, rfl, h1, h2⟩ := h
  exact .tup h1 h2.dp
theorem shR_len : ∀ t : Dt, (shR t).length = t.len | x => rfl | o => rfl | c _ r => congrArg (· + 1) (shR_len r)
theorem plain_sh : ∀ (t : Dt) (n : Nat), t.nodes ≤ 1000 → ∀ d ∈ shR t, t.ht ≤ n → plainN n d
  | x, n, _, d, h, _ => by simp [shR] at h
  | o, n, _, d, h, _ => by simp [shR] at h
  | c k r, n, hn, d, h, hh => by
    have h1 : k.nodes + r.nodes ≤ 1000 := hn
    have h2 : max (k.ht + 1) r.ht ≤ n := hh
    rcases List.mem_cons.mp (show d ∈ .tuple (shR k) :: shR r from h) with rfl | h
    · cases n with
      | zero => omega
      | succ n =>
        refine ⟨?_, fun e he => plain_sh k n (by omega) e he (by omega)⟩
        rw [shR_len]
        have := len_lt_nodes k
        omega
    · exact plain_sh r n (by omega) d h (by omega)
theorem plain_shD {t : Dt} {n : Nat} (hn : t.nodes ≤ 1000) (hh : t.ht ≤ n) : plainN (n + 1) (shD t) := by
  refine ⟨?_, fun e he => plain_sh t n hn e he hh⟩
  rw [shR_len]
  have := len_lt_nodes t
  omega
def intsD (l : List Int) : PyData := .tuple (l.map PyData.int)
theorem plain_ints {l : List Int} {n : Nat} (h : l.length ≤ 1000) : plainN (n + 2) (intsD l) := by
  refine ⟨by rw [List.length_map]; exact h, fun d hd => ?_⟩
  obtain ⟨i, _, rfl⟩ := List.mem_map.mp hd
  exact trivial
/-- the data of the answers -/
def datOf (T : Dt) (p : Ad) : Nat → PyData
  | 0 => match T.sub p with | some w => shD w | none => .none
  | 1 => if p = [] then .none else .int (T.idx p.dropLast : Nat)
  | 2 => match T.sub p with | some w => intsD ((List.range w.len).map fun j => ((T.idx (p ++ [j]) : Nat) : Int)) | none => .none
  | 3 => .int (p.length : Nat)
  | 4 => .int (T.low p : Nat)
  | 5 => match T.sub p with | some w => .int (T.low p + w.lf : Nat) | none => .none
  | _ => if isLf T p = true then .int (T.low p : Nat) else .none
theorem ans_dp {K : PySem.W.Frag} {H : Hp} {T : Dt} {p : Ad} (hp : p ∈ ad T) : ∀ (way : Nat) (v : V), way < 7 → AnsV K H T (some (T.idx p : Nat)) way v → Dp K H v (datOf T p way) := by
  have inj : ∀ q, some ((T.idx p : Nat) : Int) = some ((T.idx q : Nat) : Int) → q ∈ ad T → q = p := fun q e hq => by
    injection e with e
    exact idx_inj hq hp (by omega)
  intro way v hw h
  match way, hw, h with
  | 0, _, ⟨q, e, hq, w, hs, hv⟩ =>
    obtain rfl := inj q e hq
    show Dp K H v (match T.sub q with | some w => shD w | none => .none)
    rw [hs]
    exact hv.dp
  | 1, _, ⟨q, e, hq, hv⟩ =>
    obtain rfl := inj q e hq
    obtain rfl : v = parV T q := hv
    unfold parV
    show Dp K H _ (if q = [] then .none else .int (T.idx q.dropLast : Nat))
    split
    · exact .non
    · exact .int _
  | 2, _, ⟨q, e, hq, w, b, hs, hv, hb⟩ =>
    obtain rfl := inj q e hq
    subst hv
    show Dp K H (.ref b) (match T.sub q with | some w => intsD ((List.range w.len).map fun j => ((T.idx (q ++ [j]) : Nat) : Int)) | none => .none)
    rw [hs]
    have e : kidV T q w = ((List.range w.len).map fun j => ((T.idx (q ++ [j]) : Nat) : Int)).map V.int := by
      unfold kidV
      rw [List.map_map]
      rfl
    rw [e] at hb
    exact .tup hb (dpall_ints _)
  | 3, _, ⟨q, e, hq, hv⟩ =>
    obtain rfl := inj q e hq
    obtain rfl : v = .int (q.length : Nat) := hv
    exact .int _
  | 4, _, ⟨q, e, hq, hv⟩ =>
    obtain rfl := inj q e hq
    obtain rfl : v = .int (T.low q : Nat) := hv
    exact .int _
  | 5, _, ⟨q, e, hq, w, hs, hv⟩ =>
    obtain rfl := inj q e hq
    subst hv
    show Dp K H _ (match T.sub q with | some w => .int (T.low q + w.lf : Nat) | none => .none)
    rw [hs]
    exact .int _
  | 6, _, ⟨q, e, hq, hv⟩ =>
    obtain rfl := inj q e hq
    subst hv
    show Dp K H _ (if isLf T q = true then .int (T.low q : Nat) else .none)
    split
    · exact .int _
    · exact .non
/-! ### places.index -/
theorem index_read {K : PySem.W.Frag} {H : Hp} {P : Addr} {xs : List V} {T : Dt} {y : V} {p : Ad} {Q : VK} (hP : SqL K H P xs) (hx : Paired (PlV K H) xs (ad T)) (hy : PlV K H y p) (hp : p ∈ ad T) (q : Q (.int (T.idx p : Nat)) H) : rIndexD K (.ref P) [y] H Q := by
  have hat := idx_at hp
  refine ⟨P, y, adD p, (ad T).map adD, T.idx p, adD p, rfl, rfl, .lst hP (dpall_ads hx), hy.dp, shaped_ads _, shaped_ad _, by rw [List.getElem?_map, hat]; rfl, by rw [eqv_ad]; simp, fun m z hm hz => ?_, q⟩
  rw [List.getElem?_map] at hz
  obtain ⟨r, hr, rfl⟩ := Option.map_eq_some_iff.mp hz
  rw [eqv_ad]
  refine decide_eq_false fun e => ?_
  subst e
  have := idx_of hr
  omega
theorem cut_init (xs : List V) : cutV xs none (some (-1)) = xs.dropLast := by
  unfold cutV
  rw [HT.sIx_none, List.drop_zero, List.dropLast_eq_take]
  congr 1
  rw [show HT.sIx xs.length xs.length (some (-1)) = (if (-1 : Int) < 0 then (-1 + (xs.length : Int)).toNat else min ((-1 : Int)).toNat xs.length) from rfl, if_pos (by decide)]
  omega
theorem adV_init (q : Ad) : (adV q).dropLast = adV q.dropLast := by
  simp [adV, zs, List.map_dropLast]
theorem un65 {k : Nat} {A : Around} (hr : Room k A) : A.units + 65 < cLine := by have := hr.un; omega
section
variable {X : Cx} {K : PySem.W.Frag}
theorem mt_indexK (e : X.K = K) (hu : X.A.units + 65 < cLine) : MtR X "list.index" (rIndexD K) := by subst e; exact mt_indexD hu
theorem op_ltTK (e : X.K = K) (hu : X.A.units + 65 < cLine) : OpR X (compareOp .Lt) (rLtT K) := by subst e; exact op_ltT (by omega)
theorem op_eqDK (e : X.K = K) (hu : X.A.units + 65 < cLine) : OpR X (compareOp .Eq) (rEqD K) := by subst e; exact op_eqD (by omega)
theorem op_catAK (e : X.K = K) : OpR X (binaryOp .Add) (rCatA K) := by subst e; exact op_catA
theorem pe_bmK {o e : Expr} {es : List Expr} {to : TE} {t : TA} {name : Str} {apos cpos : Pos} {T id : String} {r : V → List V → Hp → VK → Prop} (eK : X.K = K) (pa : PlainAttrs T) (slot : Slot T name id) (hty : typeOf (.builtin id) = pure (.type "method_descriptor")) (hm : MtR X id r) (ho : PE X o to) (ha : PA X (e :: es) t)
    (hbase : attributeBase o name X.env (eval o X.env) = eval o X.env := by rfl)
    (hfew : ((backTo cpos (starEach (e :: es) X.env)).all (fun x => !x.1) && (backToKw cpos (keywordEach [] X.env)).all (fun x => x.1.isSome)
      && decide ((e :: es).length + ([] : List Keyword).length + (if ([] : List Keyword).isEmpty then 0 else 1) < 30)) = true := by rfl)
    (hline : (apos.endLine == cpos.line) = true := by rfl) (hs : starEach (e :: es) X.env = (false, eval e X.env) :: starEach es X.env := by rfl) (hplain : (backTo cpos (starEach es X.env)).any (·.1) = false := by rfl) :
    PE X (.Call (.Attribute o name apos) (e :: es) [] cpos) (tBM K T r to t) := by
  subst eK
  exact pe_bm pa slot hty hm ho ha hbase hfew hline hs hplain
theorem sl_tupAK (e : X.K = K) : SlR X (rSlA K) := by subst e; exact sl_tupA
end
def spDue (K : PySem.W.Frag) : Sp := fun vs H Q _ => ∃ (v : V) (Pl Lv : Addr) (way i : Nat) (xs ys : List V) (T : Dt) (p : Ad), vs = [v, .ref Pl, .ref Lv, .int (way : Nat), .int (i : Nat)] ∧ ShV K H v T ∧ H Pl = some (.lst xs) ∧ Paired (PlV K H) xs (ad T) ∧ H Lv = some (.lst ys) ∧ Paired (PlV K H) ys (lv T) ∧
  (ad T)[i]? = some p ∧ way < 7 ∧ T.nodes ≤ 1000 ∧ ∀ r H', Same H H' → Dp K H' r (datOf T p way) → Q r H'
section
variable {P : Program} {w : World} {K : PySem.W.Frag} {mg : Str → Option Value} {base : Heap}
theorem ok_due (D : DefAt K mg "_law_due" s_law_due ["shape", "places", "leaves", "way", "spot"]) (T : Txt K mg) (GB : CalX P w K mg base CX0 1 "_law_bough" ["shape", "place"] (spBough K)) : CalX P w K mg base CX0 2 "_law_due" ["shape", "places", "leaves", "way", "spot"] (spDue K) := by
  refine D.ok sc_law_due (fun vs H Q E h => ?_) (fun f cdv A outer s H vs Q E hr h => ?_)
  · obtain ⟨v, Pl, Lv, way, i, xs, ys, t, p, rfl, _⟩ := h
    rfl
  obtain ⟨v, Pl, Lv, way, i, xs, ys, t, p, rfl, hv, hP, hx, hL, hy, hi, hw, hn, q⟩ := h
  refine ⟨_, pss_cons (ps_set (i := 5) sc_law_due.nd rfl (.inr rfl) (pe_ix ix_list (pv 1) (pv 4) (fun _ _ => rfl)))
    (pss_cons (ps_set (i := 6) sc_law_due.nd rfl (.inr rfl) (pe_callB call_len_seq (by rfl) T.len PySem.boot_len (pa_cons (pv 5) pa_nil)))
    (pss_cons (ps_if (pt_cmpR op_eq (pv 3) pe_int (nomark _)) (pss_one (ps_ret (pe_c0 GB hr (by decide) rfl (pa_cons (pv 0) (pa_cons (pv 5) pa_nil))))) pss_nil)
    (pss_cons (ps_if (pt_cmpR op_eq (pv 3) pe_int (nomark _)) (pss_one (ps_ret (pe_ifExp (pt_truth (pv 5) (by intro _; rfl))
        (pe_bm PySem.F.plainAttrs_list PySem.F.slot_list_index PySem.F.type_list_index (mt_indexD (un65 hr)) (pv 1) (pa_cons (pe_slice sl_tupA (pv 5) po_none (po_some (pe_un un_neg pe_int))) pa_nil)) pe_non))) pss_nil)
    (pss_cons (ps_if (pt_cmpR op_eq (pv 3) pe_int (nomark _))
      (pss_cons (ps_set (i := 7) sc_law_due.nd rfl (.inl rfl) (pe_c0 GB hr (by decide) rfl (pa_cons (pv 0) (pa_cons (pv 5) pa_nil))))
      (pss_one (ps_ret (pe_callTy call_tuple_of (by rfl) T.tuple PyProof.Rows.boot_tuple (pa_cons (pe_lc (own := [("turn", 8)]) (g := gName 8) (tt := tYes) (by rfl) sc_law_due.nd (pi_range1 rfl T.range (pa_cons (pe_callB call_len_seq (by rfl) T.len PySem.boot_len (pa_cons (pv 7) pa_nil)) pa_nil))
        (blkOk_by (own := [("turn", 8)]) (N := N_law_due) (sc := defScope s_law_due) (by decide +kernel)) (fun _ _ _ _ _ => pg_name (i := 8) sc_law_due.nd rfl (Or.inl rfl)) (fun _ _ _ _ _ => pts_nil)
        (fun _ _ _ _ _ => by exact (pe_bmK (K := K) (by exact rfl) PySem.F.plainAttrs_list PySem.F.slot_list_index PySem.F.type_list_index (mt_indexK (K := K) (by exact rfl) (un65 hr)) (pv 1) (pa_cons (pe_op (op_catAK (K := K) (by exact rfl)) (pv 5) (pe_tup (pa_cons (pv 8) pa_nil))) pa_nil)))) pa_nil))))) pss_nil)
    (pss_cons (ps_if (pt_cmpR op_eq (pv 3) pe_int (nomark _)) (pss_one (ps_ret (pv 6))) pss_nil)
    (pss_cons (ps_set (i := 10) sc_law_due.nd rfl (.inl rfl) (pe_callB call_len_seq (by rfl) T.len PySem.boot_len (pa_cons (pe_lc (own := [("leaf", 9)]) (g := gName 9) (by rfl) sc_law_due.nd (pi_list (pv 2))
        (blkOk_by (own := [("leaf", 9)]) (N := N_law_due) (sc := defScope s_law_due) (by decide +kernel)) (fun _ _ _ _ _ => pg_name (i := 9) sc_law_due.nd rfl (Or.inl rfl))
        (fun _ _ _ _ _ => by exact (pts_one (pt_cmpR (op_ltTK (K := K) (by exact rfl) (un65 hr)) (pv 9) (pv 5) (nomark _)))) (fun _ _ _ _ _ => pv 9)) pa_nil)))
    (pss_cons (ps_if (pt_cmpR op_eq (pv 3) pe_int (nomark _)) (pss_one (ps_ret (pv 10))) pss_nil)
    (pss_cons (ps_if (pt_cmpR op_eq (pv 3) pe_int (nomark _)) (pss_one (ps_ret (pe_op op_add (pv 10) (pe_callB call_len_seq (by rfl) T.len PySem.boot_len (pa_cons (pe_lc (own := [("leaf", 9)]) (g := gName 9) (by rfl) sc_law_due.nd (pi_list (pv 2))
        (blkOk_by (own := [("leaf", 9)]) (N := N_law_due) (sc := defScope s_law_due) (by decide +kernel)) (fun _ _ _ _ _ => pg_name (i := 9) sc_law_due.nd rfl (Or.inl rfl))
        (fun _ _ _ _ _ => by exact (pts_one (pt_cmpR (op_eqDK (K := K) (by exact rfl) (un65 hr)) (pe_slice (sl_tupAK (K := K) (by exact rfl)) (pv 9) po_none (po_some (pv 6))) (pv 5) (nomark _)))) (fun _ _ _ _ _ => pv 9)) pa_nil))))) pss_nil)
    (pss_one (ps_ret (pe_ifExp (pt_cmpR (op_inD (un65 hr)) (pv 5) (pv 2) rfl) (pv 10) pe_non))))))))))), ?_⟩
  have hpm : p ∈ ad t := List.mem_of_getElem? hi
  obtain ⟨u, hu⟩ := ad_sub hpm
  obtain ⟨vb, e1, b, rfl, hb⟩ := Paired.at hx hi
  have hsl := sizeLine_eq
  have hidl := idx_lt hu
  have hpl := len_idx t p u hu
  have hsH : Same H H := fun _ _ z => z
  have hlf := low_le hu
  have hlfn : t.lf ≤ t.nodes := by
    rw [← ad_len]
    exact List.length_filter_le _ _
  refine ⟨_, rfl, _, rfl, Pl, _, _, _, rfl, rfl, SqL.of hP, atI_nat e1, ?_⟩
  refine ⟨_, rfl, b, _, rfl, .inr hb, ?_⟩
  rw [adV_len]
  match way, hw, q with
  | 0, _, q =>
    refine ⟨_, rfl, rfl, _, rfl, ?_⟩
    refine iteT ?_
    refine ⟨_, rfl, _, rfl, v, .ref b, t, u, p, rfl, hv, ⟨b, rfl, hb⟩, hu, fun r hr2 => q r H hsH ?_⟩
    show Dp K H r (match t.sub p with | some w => shD w | none => .none)
    rw [hu]
    exact hr2.dp
  | 1, _, q =>
    refine ⟨_, rfl, rfl, _, rfl, ?_⟩
    refine iteF ?_
    refine ⟨_, rfl, rfl, _, rfl, ?_⟩
    refine iteT ?_
    refine ⟨_, rfl, !(adV p).isEmpty, .inr (.inl ⟨_, hb, rfl⟩), ?_⟩
    by_cases e : p = []
    · subst e
      refine iteF ?_
      exact q .non H hsH .non
    · have e2 : (!(adV p).isEmpty) = true := by
        cases p with
        | nil => exact absurd rfl e
        | cons i p => rfl
      rw [e2]
      refine iteT ?_
      refine ⟨_, rfl, .inl ⟨rfl, _, SqL.of hP⟩, _, rfl, 1, rfl, _, rfl, rSlA_all hb fun tp H2 sm htp => ?_⟩
      have htp' : SqT K H2 tp (adV p.dropLast) := by
        rw [← adV_init, ← cut_init]
        exact htp
      refine index_read (SqL.of (sm _ _ hP)) (Paired.mono (fun v q c => c.keep (KeepT.of_same sm)) hx) ⟨tp, rfl, htp'⟩ (pre_ad hpm (List.dropLast_prefix p)) (q _ H2 sm ?_)
      show Dp K H2 _ (if p = [] then .none else .int (t.idx p.dropLast : Nat))
      rw [if_neg e]
      exact .int _
  | 2, _, q =>
    refine ⟨_, rfl, rfl, _, rfl, ?_⟩
    refine iteF ?_
    refine ⟨_, rfl, rfl, _, rfl, ?_⟩
    refine iteF ?_
    refine ⟨_, rfl, rfl, _, rfl, ?_⟩
    refine iteT ?_
    refine ⟨_, rfl, _, rfl, v, .ref b, t, u, p, rfl, hv, ⟨b, rfl, hb⟩, hu, fun r hr2 => ?_⟩
    obtain ⟨kb, ks, rfl, hks, hkS⟩ := hr2
    have hul := len_lt_nodes u
    refine ⟨_, rfl, kb, ks, rfl, .inr hks, ?_⟩
    rw [hkS.len]
    refine ⟨_, rfl, by omega, by omega, fun Dl hDl => lc_range (lo := 0) (n := u.len) (fun j H' => Same H H' ∧ H' Dl = some (.lst ((List.range j).map fun j => V.int (t.idx (p ++ [j]) : Nat)))) ⟨same_new hDl, upd_same⟩ ?_ ?_⟩
    · rintro j H' hj ⟨sm, hD⟩
      have hkid : p ++ [j] ∈ ad t := by
        obtain ⟨a1, _⟩ := sub_app t p u hu [j]
        have : j < u.kids.length := by rw [kids_len]; exact hj
        rw [sub_one, List.getElem?_eq_getElem this] at a1
        exact sub_ad a1
      refine ⟨rfl, ?_⟩
      refine ⟨_, rfl, .inl ⟨rfl, _, SqL.of (sm _ _ hP)⟩, _, rfl, _, rfl, (by show 1 ≤ sizeLine; decide), fun t1 ht1 => ?_⟩
      have s1 : Same H' (upd H' t1 (.tup [.int (0 + (j : Nat))])) := same_new ht1
      refine rCatA_all (same_sqt (sm.trans s1) hb) (SqT.of upd_same) (by rw [adV_len, List.length_singleton]; omega) fun tp H2 sm2 htp => ?_
      have htp' : SqT K H2 tp (adV (p ++ [j])) := by
        rw [← adV_snoc, show (j : Int) = 0 + (j : Int) from (Int.zero_add _).symm]
        exact htp
      have smA := sm.trans (s1.trans sm2)
      dsimp only [L2.tNil]
      refine index_read (SqL.of (smA _ _ hP)) (Paired.mono (fun v q c => c.keep (KeepT.of_same smA)) hx) ⟨tp, rfl, htp'⟩ hkid ?_
      refine ⟨_, sm2 _ _ (s1 _ _ hD), small1000 (by rw [List.length_map, List.length_range]; omega), same_mut smA hDl, ?_⟩
      rw [upd_same, List.range_succ, List.map_append]
      rfl
    · rintro H' ⟨sm, hD⟩
      refine ⟨Dl, _, rfl, .inl ⟨SqL.of hD, fun l hl => ?_⟩⟩
      refine q _ _ (sm.trans (same_new hl)) ?_
      show Dp K _ (.ref l) (match t.sub p with | some w => intsD ((List.range w.len).map fun j => ((t.idx (p ++ [j]) : Nat) : Int)) | none => .none)
      rw [hu]
      have e : ((List.range u.len).map fun j => V.int (t.idx (p ++ [j]) : Nat)) = ((List.range u.len).map fun j => ((t.idx (p ++ [j]) : Nat) : Int)).map V.int := by
        rw [List.map_map]
        rfl
      rw [e]
      exact .tup (SqT.of upd_same) (dpall_ints _)
  | 3, _, q =>
    refine ⟨_, rfl, rfl, _, rfl, ?_⟩
    refine iteF ?_
    refine ⟨_, rfl, rfl, _, rfl, ?_⟩
    refine iteF ?_
    refine ⟨_, rfl, rfl, _, rfl, ?_⟩
    refine iteF ?_
    refine ⟨_, rfl, rfl, _, rfl, ?_⟩
    refine iteT ?_
    exact ⟨_, rfl, q _ H hsH (.int _)⟩
  | (way + 4), hw, q =>
    refine ⟨_, rfl, rfl, _, rfl, ?_⟩
    refine ite2 (fun z => by have z' := of_decide_eq_true z; injection z' with z'; omega) (fun _ => ?_)
    refine ⟨_, rfl, rfl, _, rfl, ?_⟩
    refine ite2 (fun z => by have z' := of_decide_eq_true z; injection z' with z'; omega) (fun _ => ?_)
    refine ⟨_, rfl, rfl, _, rfl, ?_⟩
    refine ite2 (fun z => by have z' := of_decide_eq_true z; injection z' with z'; omega) (fun _ => ?_)
    refine ⟨_, rfl, rfl, _, rfl, ?_⟩
    refine ite2 (fun z => by have z' := of_decide_eq_true z; injection z' with z'; omega) (fun _ => ?_)
    have hyl := Paired.len hy
    -- low = len([leaf for leaf in leaves if leaf < place])
    refine ⟨_, rfl, Lv, rfl, ⟨_, SqL.of hL⟩, fun Dl hDl => lc_list (K := K) (a := Lv) (xs := ys) (fun j H' => Same H H' ∧ ∃ acc, H' Dl = some (.lst acc) ∧ acc.length = (((lv t).take j).filter fun q => lt q p).length) ⟨same_new hDl, [], upd_same, rfl⟩ (fun j H' _ ⟨sm, _⟩ => SqL.of (sm _ _ hL)) ?_ ?_⟩
    · rintro j x H' hj ⟨sm, acc, hD, hacc⟩
      have hjl := (List.getElem?_eq_some_iff.mp hj).1
      rw [hyl] at hjl
      obtain ⟨x2, e2, c, rfl, hc⟩ := Paired.at hy (List.getElem?_eq_getElem hjl)
      obtain rfl : x = V.ref c := Option.some.inj (hj.symm.trans e2)
      refine ⟨rfl, ?_⟩
      refine ⟨_, rfl, _, rfl, c, b, zs (lv t)[j], zs p, rfl, rfl, same_sqt sm hc, same_sqt sm hb, _, rfl, ?_⟩
      have et : (lv t).take (j + 1) = (lv t).take j ++ [(lv t)[j]] := by rw [List.take_add_one, List.getElem?_eq_getElem hjl]; rfl
      rw [et, List.filter_append, List.length_append]
      cases z : lt (lv t)[j] p with
      | true =>
        rw [show HT.lexLt (zs (lv t)[j]) (zs p) = true from z]
        refine iteT ?_
        have hle : (((lv t).take j).filter fun q => lt q p).length ≤ 1000 := Nat.le_trans (List.length_filter_le _ _) (by rw [List.length_take]; have : (lv t).length = t.lf := rfl; omega)
        refine ⟨_, rfl, acc, hD, small1000 (by omega), same_mut sm hDl, _, upd_same, ?_⟩
        rw [List.length_append, hacc]
        simp [z]
      | false =>
        rw [show HT.lexLt (zs (lv t)[j]) (zs p) = false from z]
        refine iteF ?_
        refine ⟨sm, acc, hD, ?_⟩
        rw [hacc]
        simp [z]
    · rintro H' ⟨sm, acc, hD, hacc⟩
      rw [hyl, List.take_length, low_lt hpm] at hacc
      refine ⟨Dl, acc, rfl, .inl (SqL.of hD), ?_⟩
      rw [hacc]
      have h3 : way = 0 ∨ way = 1 ∨ way = 2 := by omega
      rcases h3 with rfl | rfl | rfl
      · refine ⟨_, rfl, rfl, _, rfl, ?_⟩
        refine iteT ?_
        exact ⟨_, rfl, q _ H' sm (.int _)⟩
      · refine ⟨_, rfl, rfl, _, rfl, ?_⟩
        refine iteF ?_
        refine ⟨_, rfl, rfl, _, rfl, ?_⟩
        refine iteT ?_
        refine ⟨_, rfl, _, rfl, Lv, rfl, ⟨_, SqL.of (sm _ _ hL)⟩, fun D2 hD2 => lc_list (K := K) (a := Lv) (xs := ys) (fun j H2 => Same H' H2 ∧ ∃ acc2, H2 D2 = some (.lst acc2) ∧ acc2.length = (((lv t).take j).filter fun q => decide (q.take p.length = p)).length) ⟨same_new hD2, [], upd_same, rfl⟩ (fun j H2 _ ⟨sm2, _⟩ => SqL.of (sm2 _ _ (sm _ _ hL))) ?_ ?_⟩
        · rintro j x H2 hj ⟨sm2, acc2, hDD, hacc2⟩
          have hjl := (List.getElem?_eq_some_iff.mp hj).1
          rw [hyl] at hjl
          obtain ⟨x2, e2, c, rfl, hc⟩ := Paired.at hy (List.getElem?_eq_getElem hjl)
          obtain rfl : x = V.ref c := Option.some.inj (hj.symm.trans e2)
          refine ⟨rfl, ?_⟩
          refine ⟨_, rfl, _, rfl, _, rfl, rSlA_all (same_sqt (sm.trans sm2) hc) fun tp H3 sm3 htp => ?_⟩
          rw [cut_take, adV_take] at htp
          refine ⟨_, rfl, adD ((lv t)[j].take p.length), adD p, PlV.dp ⟨tp, rfl, htp⟩, PlV.dp ⟨b, rfl, same_sqt (sm.trans (sm2.trans sm3)) hb⟩, shaped_ad _, shaped_ad _, _, rfl, ?_⟩
          rw [eqv_ad]
          have et : (lv t).take (j + 1) = (lv t).take j ++ [(lv t)[j]] := by rw [List.take_add_one, List.getElem?_eq_getElem hjl]; rfl
          rw [et, List.filter_append, List.length_append]
          cases z : decide ((lv t)[j].take p.length = p) with
          | true =>
            refine iteT ?_
            have hle : (((lv t).take j).filter fun q => decide (q.take p.length = p)).length ≤ 1000 := Nat.le_trans (List.length_filter_le _ _) (by rw [List.length_take]; have : (lv t).length = t.lf := rfl; omega)
            refine ⟨_, rfl, acc2, sm3 _ _ hDD, small1000 (by omega), same_mut (sm2.trans sm3) hD2, _, upd_same, ?_⟩
            rw [List.length_append, hacc2]
            simp [of_decide_eq_true z]
          | false =>
            refine iteF ?_
            refine ⟨sm2.trans sm3, acc2, sm3 _ _ hDD, ?_⟩
            rw [hacc2]
            simp [of_decide_eq_false z]
        · rintro H2 ⟨sm2, acc2, hDD, hacc2⟩
          rw [hyl, List.take_length, high_pre hu] at hacc2
          refine ⟨D2, acc2, rfl, .inl (SqL.of hDD), _, _, rfl, rfl, ?_⟩
          rw [hacc2]
          refine q _ H2 (sm.trans sm2) ?_
          show Dp K H2 (.int (((t.low p : Nat) : Int) + ((u.lf : Nat) : Int))) (match t.sub p with | some w => .int (t.low p + w.lf : Nat) | none => .none)
          rw [hu]
          exact .int _
      · refine ⟨_, rfl, rfl, _, rfl, ?_⟩
        refine iteF ?_
        refine ⟨_, rfl, rfl, _, rfl, ?_⟩
        refine iteF ?_
        have hyH := Paired.mono (fun v q (c : PlV K H v q) => c.keep (KeepT.of_same sm)) hy
        refine ⟨_, rfl, _, rfl, adD p, (lv t).map adD, PlV.dp ⟨b, rfl, same_sqt sm hb⟩, .lst (SqL.of (sm _ _ hL)) (dpall_ads hyH), shaped_ad _, shaped_ads _, _, rfl, ?_⟩
        have ea : (((lv t).map adD).any fun z => PyData.eqv z (adD p)) = isLf t p := by
          rw [List.any_map]
          have : ((fun z => PyData.eqv z (adD p)) ∘ adD) = fun r => decide (r = p) := by
            funext r
            exact eqv_ad r p
          rw [this]
          cases z : isLf t p with
          | true => exact List.any_eq_true.mpr ⟨p, List.mem_filter.mpr ⟨hpm, z⟩, by simp⟩
          | false =>
            refine List.any_eq_false.mpr fun r hr2 => ?_
            intro z2
            have := of_decide_eq_true z2
            subst this
            rw [(List.mem_filter.mp hr2).2] at z
            exact nomatch z
        rw [ea]
        have qq := fun r d => q r H' sm d
        have ed : datOf t p (2 + 4) = if isLf t p = true then .int (t.low p : Nat) else .none := rfl
        cases z : isLf t p with
        | true =>
          refine iteT ?_
          refine ⟨_, rfl, q _ H' sm ?_⟩
          rw [ed, z]
          exact .int _
        | false =>
          refine iteF ?_
          refine q _ H' sm ?_
          rw [ed, z]
          exact .non
end
end K19

set_option Elab.async false
set_option linter.all false
set_option maxRecDepth 100000
set_option maxHeartbeats 4000000
namespace K19
open PySem PySem.Spec PyProof.Rows L2 Dt
/-! ### what all the tests of a tree rest on -/
structure LawEnv (K : PySem.W.Frag) (H : Hp) (C a : Addr) (v : V) (Pl Lv : Addr) (T : Dt) : Prop where
  tr : Tree K H C a T
  sv : ShV K H v T
  pl : ∃ xs, H Pl = some (.lst xs) ∧ Paired (PlV K H) xs (ad T)
  lf : ∃ ys, H Lv = some (.lst ys) ∧ Paired (PlV K H) ys (lv T)
  h12 : T.ht ≤ 12
  n1 : T.nodes ≤ 1000
theorem paired_same {K : PySem.W.Frag} {H H' : Hp} {xs : List V} {l : List Ad} (e : Same H H') (h : Paired (PlV K H) xs l) : Paired (PlV K H') xs l := Paired.mono (fun v q c => c.keep (KeepT.of_same e)) h
theorem LawEnv.same {K : PySem.W.Frag} {H H' : Hp} {C a : Addr} {v : V} {Pl Lv : Addr} {T : Dt} (l : LawEnv K H C a v Pl Lv T) (e : Same H H') : LawEnv K H' C a v Pl Lv T := by
  obtain ⟨xs, h1, h2⟩ := l.pl
  obtain ⟨ys, h3, h4⟩ := l.lf
  exact ⟨l.tr.same e, l.sv.keep (KeepT.of_same e), ⟨xs, e _ _ h1, paired_same e h2⟩, ⟨ys, e _ _ h3, paired_same e h4⟩, l.h12, l.n1⟩
theorem sub_ht : ∀ (T : Dt) (p : Ad) (u : Dt), T.sub p = some u → u.ht ≤ T.ht ∧ u.nodes ≤ T.nodes
  | t, [], u, h => by
    rw [sub_nil] at h
    cases h
    exact ⟨Nat.le_refl _, Nat.le_refl _⟩
  | c k r, 0 :: p, u, h => by
    obtain ⟨h1, h2⟩ := sub_ht k p u h
    have e1 : (c k r).ht = max (k.ht + 1) r.ht := rfl
    have e2 : (c k r).nodes = k.nodes + r.nodes := rfl
    omega
  | c k r, (j + 1) :: p, u, h => by
    obtain ⟨h1, h2⟩ := sub_ht r (j :: p) u h
    have e1 : (c k r).ht = max (k.ht + 1) r.ht := rfl
    have e2 : (c k r).nodes = k.nodes + r.nodes := rfl
    omega
  | o, j :: p, _, h => by rw [sub_o] at h; cases h
  | x, j :: p, _, h => by rw [sub_x] at h; cases h
theorem plainN_mono : ∀ {n m : Nat} {d : PyData}, n ≤ m → plainN n d → plainN m d
  | 0, _, _, _, h => False.elim h
  | n + 1, 0, _, hh, _ => absurd hh (Nat.not_succ_le_zero _)
  | n + 1, m + 1, d, hh, h => by
    cases d with
    | none => trivial
    | bool _ => trivial
    | int _ => trivial
    | str _ => trivial
    | list _ => exact False.elim h
    | tuple ds => exact ⟨h.1, fun d hd => plainN_mono (Nat.le_of_succ_le_succ hh) (h.2 d hd)⟩
    | dict _ => exact False.elim h
theorem plain_dat {T : Dt} {p : Ad} (h12 : T.ht ≤ 12) (n1 : T.nodes ≤ 1000) : ∀ way, plainN 14 (datOf T p way) := by
  have at_ : ∀ (o : Option Dt) (f : Dt → PyData), T.sub p = o → (∀ w, T.sub p = some w → plainN 14 (f w)) → plainN 14 (match o with | some w => f w | none => .none) := fun o f e hf => by
    cases o with
    | none => trivial
    | some w => exact hf w e
  intro way
  match way with
  | 0 => exact at_ _ _ rfl fun w hw => plainN_mono (by decide) (plain_shD (n := 12) (by have := (sub_ht T p w hw).2; omega) (by have := (sub_ht T p w hw).1; omega))
  | 1 =>
    show plainN 14 (if p = [] then .none else .int _)
    split <;> trivial
  | 2 => exact at_ _ _ rfl fun w hw => plain_ints (n := 12) (by
      rw [List.length_map, List.length_range]
      have := (sub_ht T p w hw).2
      have := len_lt_nodes w
      omega)
  | 3 => trivial
  | 4 => trivial
  | 5 => exact at_ _ _ rfl fun w hw => trivial
  | n + 6 =>
    show plainN 14 (if isLf T p = true then .int _ else .none)
    split <;> trivial
theorem plain_told {d : PyData} {n : Nat} {z : Str} (h : plainN (n + 1) d) : plainN (n + 2) (.tuple [.str z, d]) :=
  ⟨by show 2 ≤ 1000; decide, fun e he => by
    rcases List.mem_cons.mp he with rfl | he
    · exact trivial
    · obtain rfl : e = d := by simpa using he
      exact h⟩
theorem plain_ref {n : Nat} {z z' : Str} {i : Int} : plainN (n + 2) (.tuple [.str z, .str z', .int i]) :=
  ⟨by show 3 ≤ 1000; decide, fun e he => by
    have he' : e = .str z ∨ e = .str z' ∨ e = .int i := by simpa using he
    rcases he' with rfl | rfl | rfl <;> exact trivial⟩
theorem dp_told {K : PySem.W.Frag} {H : Hp} {r : Addr} {v : V} {d : PyData} {z : Str} (h : H r = some (.tup [.str z, v])) (hd : Dp K H v d) : Dp K H (.ref r) (.tuple [.str z, d]) := .tup (SqT.of h) (.cons (.str z) (.cons hd .nil))
theorem dp_ref {K : PySem.W.Frag} {H : Hp} {r : Addr} {z z' : Str} {i : Int} (h : H r = some (.tup [.str z, .str z', .int i])) : Dp K H (.ref r) (.tuple [.str z, .str z', .int i]) := .tup (SqT.of h) (.cons (.str z) (.cons (.str z') (.cons (.int i) .nil)))
def spNodeRight (K : PySem.W.Frag) (C : Addr) : Sp := fun vs H Q _ => ∃ (a Pl Lv : Addr) (v : V) (T : Dt) (i : Nat) (b : Bool), vs = [.ref a, v, .ref Pl, .ref Lv, .int (i : Nat), .bl b] ∧ LawEnv K H C a v Pl Lv T ∧ i < T.nodes ∧ ∀ H', Same H H' → Q (.bl true) H'
def spQueueRight (K : PySem.W.Frag) (C : Addr) : Sp := fun vs H Q _ => ∃ (a Pl Lv : Addr) (v : V) (T : Dt) (i : Nat) (b : Bool), vs = [.ref a, .ref Pl, .ref Lv, .int (i : Nat), .bl b] ∧ LawEnv K H C a v Pl Lv T ∧ i < T.lf ∧ ∀ H', Same H H' → Q (.bl true) H'
def spPairRight (K : PySem.W.Frag) (C : Addr) : Sp := fun vs H Q _ => ∃ (a Pl Lv : Addr) (v : V) (T : Dt) (i j : Nat) (b : Bool), vs = [.ref a, .ref Pl, .int (i : Nat), .int (j : Nat), .bl b] ∧ LawEnv K H C a v Pl Lv T ∧ i < T.nodes ∧ j < T.nodes ∧ ∀ H', Same H H' → Q (.bl true) H'
section
variable {P : Program} {w : World} {K : PySem.W.Frag} {mg : Str → Option Value} {base : Heap} {C U : Addr}
theorem ok_node_right (D : DefAt K mg "_law_node_right" s_law_node_right ["tree", "shape", "places", "leaves", "spot", "named"]) (T : Txt K mg) (GD : CalX P w K mg base CX0 2 "_law_due" ["shape", "places", "leaves", "way", "spot"] (spDue K))
    (GT : CalX P w K mg base CX0 7 "_law_told" ["tree", "way", "first", "second", "named"] (spTold K C U)) (GS : CalX P w K mg base CX0 16 "_law_same" ["mine", "due"] (spSame K 16)) :
    CalX P w K mg base CX0 17 "_law_node_right" ["tree", "shape", "places", "leaves", "spot", "named"] (spNodeRight K C) := by
  refine D.ok sc_law_node_right (fun vs H Q E h => ?_) (fun f cdv A outer s H vs Q E hr h => ?_)
  · obtain ⟨a, Pl, Lv, v, t, i, b, rfl, _⟩ := h
    rfl
  obtain ⟨a, Pl, Lv, v, t, i, b, rfl, le, hi, q⟩ := h
  refine ⟨_, pss_cons (ps_for PassesOwn.never rfl (pi_range1 rfl T.range (pa_cons pe_int pa_nil)) (pg_name (i := 6) sc_law_node_right.nd rfl (Or.inl rfl))
      (pss_cons (ps_set (i := 7) sc_law_node_right.nd rfl (.inl rfl) (pe_tup (pa_cons pe_str (pa_cons (pe_c0 GD hr (by decide) rfl (pa_cons (pv 1) (pa_cons (pv 2) (pa_cons (pv 3) (pa_cons (pv 6) (pa_cons (pv 4) pa_nil)))))) pa_nil))))
      (pss_one (ps_if (pt_not (pt_val (pe_c0 GS hr (by decide) rfl (pa_cons (pe_c0 GT hr (by decide) rfl (pa_cons (pv 0) (pa_cons (pv 6) (pa_cons (pv 4) (pa_cons pe_int (pa_cons (pv 5) pa_nil)))))) (pa_cons (pv 7) pa_nil))))) (pss_one (ps_ret pe_bl)) pss_nil))))
    (pss_one (ps_ret pe_bl)), ?_⟩
  have hia : i < (ad t).length := by rw [ad_len]; exact hi
  refine ⟨7, rfl, by decide, by decide, for_range (lo := 0) (n := 7) (fun k σ H' => ∃ (o6 o7 : Option V), σ = [some (.ref a), some v, some (.ref Pl), some (.ref Lv), some (.int (i : Nat)), some (.bl b), o6, o7] ∧ Same H H') ⟨none, none, rfl, fun _ _ z => z⟩ ?_ ?_⟩
  · rintro k σ H' hk ⟨o6, o7, rfl, sm⟩
    have l1 := le.same sm
    obtain ⟨xs, h1, h2⟩ := l1.pl
    obtain ⟨ys, h3, h4⟩ := l1.lf
    have hpm : (ad t)[i] ∈ ad t := List.getElem_mem hia
    have hidx := idx_of (List.getElem?_eq_getElem hia)
    refine ⟨_, rfl, _, rfl, _, rfl, _, rfl, _, rfl, v, Pl, Lv, k, i, xs, ys, t, (ad t)[i], congrArg (fun z => [v, V.ref Pl, V.ref Lv, V.int z, V.int (i : Nat)]) (Int.zero_add _), l1.sv, h1, h2, h3, h4, List.getElem?_eq_getElem hia, hk, l1.n1, fun r H2 sm2 hd => ?_⟩
    refine ⟨(by show 2 ≤ sizeLine; decide), fun tq htq => ?_⟩
    have s3 : Same H2 (upd H2 tq (.tup [.str "told", r])) := same_new htq
    have l3 := l1.same (sm2.trans s3)
    refine ⟨_, rfl, _, rfl, _, rfl, _, rfl, a, k, .int (i : Nat), .int 0, b, some (i : Nat), some 0, t, congrArg (fun z => [V.ref a, V.int z, V.int (i : Nat), V.int 0, V.bl b]) (Int.zero_add _), l3.tr, rfl, rfl, by omega, fun _ => ⟨fun v2 hv2 => ?_, fun bd => ?_⟩, fun h9 => absurd h9 (by omega)⟩
    · intro r2 H4 sm4 hr4
      rw [← hidx] at hv2
      have hv3 := dp_same sm4 (ans_dp hpm k v2 hk hv2)
      refine ⟨_, rfl, .ref r2, .ref tq, .tuple [.str "told", datOf t (ad t)[i] k], rfl, dp_told hr4 hv3, dp_told (sm4 _ _ (show (upd H2 tq (.tup [.str "told", r])) tq = some (.tup [.str "told", r]) from upd_same)) (dp_same (s3.trans sm4) hd), plain_told (n := 14) (plainN_mono (by decide) (plain_dat le.h12 le.n1 k)), fun H5 sm5 => ?_⟩
      refine ⟨_, rfl, ?_⟩
      refine iteF ?_
      exact ⟨_, _, rfl, sm.trans (sm2.trans (s3.trans (sm4.trans sm5)))⟩
    · exfalso
      unfold badO at bd
      rw [if_pos hk, ← hidx, ad_below hpm] at bd
      exact nomatch bd
  · rintro σ H' ⟨o6, o7, rfl, sm⟩
    exact q H' sm
theorem ok_queue_right (D : DefAt K mg "_law_queue_right" s_law_queue_right ["tree", "places", "leaves", "spot", "named"]) (T : Txt K mg)
    (GT : CalX P w K mg base CX0 7 "_law_told" ["tree", "way", "first", "second", "named"] (spTold K C U)) (GS : CalX P w K mg base CX0 16 "_law_same" ["mine", "due"] (spSame K 16)) :
    CalX P w K mg base CX0 17 "_law_queue_right" ["tree", "places", "leaves", "spot", "named"] (spQueueRight K C) := by
  refine D.ok sc_law_queue_right (fun vs H Q E h => ?_) (fun f cdv A outer s H vs Q E hr h => ?_)
  · obtain ⟨a, Pl, Lv, v, t, i, b, rfl, _⟩ := h
    rfl
  obtain ⟨a, Pl, Lv, v, t, i, b, rfl, le, hi, q⟩ := h
  refine ⟨_, pss_cons (ps_set (i := 5) sc_law_queue_right.nd rfl (.inr rfl) (pe_ix ix_list (pv 2) (pv 3) (fun _ _ => rfl)))
    (pss_cons (ps_set (i := 6) sc_law_queue_right.nd rfl (.inl rfl) (pe_tup (pa_cons pe_str (pa_cons (pe_bm PySem.F.plainAttrs_list PySem.F.slot_list_index PySem.F.type_list_index (mt_indexD (un65 hr)) (pv 1) (pa_cons (pv 5) pa_nil)) pa_nil))))
    (pss_cons (ps_if (pt_not (pt_val (pe_c0 GS hr (by decide) rfl (pa_cons (pe_c0 GT hr (by decide) rfl (pa_cons (pv 0) (pa_cons pe_int (pa_cons (pv 3) (pa_cons pe_int (pa_cons (pv 4) pa_nil)))))) (pa_cons (pv 6) pa_nil))))) (pss_one (ps_ret pe_bl)) pss_nil)
    (pss_cons (ps_set (i := 6) sc_law_queue_right.nd rfl (.inl rfl) (pe_tup (pa_cons pe_str (pa_cons (pe_callTy call_tuple_of (by rfl) T.tuple PyProof.Rows.boot_tuple (pa_cons (pe_lc (own := [("size", 7)]) (g := gName 7) (tt := tYes) (by rfl) sc_law_queue_right.nd (pi_range1 rfl T.range (pa_cons (pe_op op_add (pe_callB call_len_seq (by rfl) T.len PySem.boot_len (pa_cons (pv 5) pa_nil)) pe_int) pa_nil))
        (blkOk_by (own := [("size", 7)]) (N := N_law_queue_right) (sc := defScope s_law_queue_right) (by decide +kernel)) (fun _ _ _ _ _ => pg_name (i := 7) sc_law_queue_right.nd rfl (Or.inl rfl)) (fun _ _ _ _ _ => pts_nil)
        (fun _ _ _ _ _ => by exact (pe_bmK (K := K) (by exact rfl) PySem.F.plainAttrs_list PySem.F.slot_list_index PySem.F.type_list_index (mt_indexK (K := K) (by exact rfl) (un65 hr)) (pv 1) (pa_cons (pe_slice (sl_tupAK (K := K) (by exact rfl)) (pv 5) po_none (po_some (pv 7))) pa_nil)))) pa_nil)) pa_nil))))
    (pss_one (ps_ret (pe_c0 GS hr (by decide) rfl (pa_cons (pe_c0 GT hr (by decide) rfl (pa_cons (pv 0) (pa_cons pe_int (pa_cons (pv 3) (pa_cons pe_int (pa_cons (pv 4) pa_nil)))))) (pa_cons (pv 6) pa_nil)))))))), ?_⟩
  obtain ⟨xs, h1, h2⟩ := le.pl
  obtain ⟨ys, h3, h4⟩ := le.lf
  have hil : i < (lv t).length := hi
  obtain ⟨vc, e1, c, rfl, hc⟩ := Paired.at h4 (List.getElem?_eq_getElem hil)
  have hsl := sizeLine_eq
  have hpm : (lv t)[i] ∈ ad t := (List.mem_filter.mp (List.getElem_mem hil)).1
  have hlv : (lv t)[i]? = some (lv t)[i] := List.getElem?_eq_getElem hil
  generalize (lv t)[i] = q0 at hpm hlv e1 hc
  have hql : q0.length < t.nodes := by
    obtain ⟨u, hu⟩ := ad_sub hpm
    have := len_idx t q0 u hu
    have := idx_lt hu
    have := u.nodes_pos
    omega
  have n1 := le.n1
  have nbad : ∀ way, 7 ≤ way → ¬ badO t (some (i : Nat)) way := fun way hw bd => by
    unfold badO at bd
    rw [if_neg (by omega)] at bd
    have : belowB (t.lf : Nat) (some ((i : Nat) : Int)) = true := by
      show (decide ((0 : Int) ≤ (i : Nat)) && decide (((i : Nat) : Int) < (t.lf : Nat))) = true
      rw [Bool.and_eq_true]
      exact ⟨decide_eq_true (by omega), decide_eq_true (by omega)⟩
    rw [this] at bd
    exact nomatch bd
  have inj : ∀ (i' : Nat) (p' : Ad), some ((i : Nat) : Int) = some ((i' : Nat) : Int) → (lv t)[i']? = some p' → p' = q0 := fun i' p' e hl => by
    injection e with e
    have : i = i' := by omega
    subst this
    rw [hlv] at hl
    exact (Option.some.inj hl).symm
  -- leaf = leaves[spot]; due = ('told', places.index(leaf))
  refine ⟨_, rfl, _, rfl, Lv, _, _, _, rfl, rfl, SqL.of h3, atI_nat e1, ?_⟩
  refine ⟨_, rfl, .inl ⟨rfl, _, SqL.of h1⟩, _, rfl, ?_⟩
  dsimp only [L2.tNil]
  refine index_read (SqL.of h1) h2 ⟨c, rfl, hc⟩ hpm ⟨(by show 2 ≤ sizeLine; decide), fun t1 ht1 => ?_⟩
  have s1 : Same H (upd H t1 (.tup [.str "told", .int (t.idx q0 : Nat)])) := same_new ht1
  have l1 := le.same s1
  refine ⟨_, rfl, _, rfl, _, rfl, a, 7, .int (i : Nat), .int 0, b, some (i : Nat), some 0, t, rfl, l1.tr, rfl, rfl, by decide, fun _ => ⟨fun v2 hv2 => ?_, fun bd => absurd bd (nbad 7 (by decide))⟩, fun h9 => absurd h9 (by decide)⟩
  obtain ⟨i', p', ee, hl2, hcell⟩ := hv2
  obtain rfl := inj i' p' ee hl2
  obtain rfl : v2 = .int (t.idx p' : Nat) := hcell
  intro r2 H2 sm2 hr2
  refine ⟨_, rfl, .ref r2, .ref t1, .tuple [.str "told", .int (t.idx p' : Nat)], rfl, dp_told hr2 (.int _), dp_told (sm2 _ _ (show (upd H t1 (.tup [.str "told", .int (t.idx p' : Nat)])) t1 = _ from upd_same)) (.int _), plain_told (n := 14) trivial, fun H3 sm3 => ?_⟩
  refine ⟨_, rfl, ?_⟩
  refine iteF ?_
  have sA := s1.trans (sm2.trans sm3)
  have hcA := same_sqt sA hc
  -- due = ('told', tuple([..]))
  refine ⟨_, rfl, c, _, rfl, .inr hcA, _, _, rfl, rfl, _, rfl, ?_, ?_, fun Dl hDl => lc_range (lo := 0) (n := ((((adV p').length : Nat) : Int) + 1).toNat) (fun k H' => Same H3 H' ∧ H' Dl = some (.lst ((List.range k).map fun j => V.int (t.idx (p'.take j) : Nat)))) ⟨same_new hDl, upd_same⟩ ?_ ?_⟩
  · have := adV_len p'
    show -(2 ^ 62) ≤ (((adV p').length : Nat) : Int) + 1
    omega
  · have := adV_len p'
    show (((adV p').length : Nat) : Int) + 1 < 2 ^ 62
    omega
  · rintro k H' hk ⟨sm, hD⟩
    rw [adV_len] at hk
    have smA := sA.trans sm
    refine ⟨rfl, ?_⟩
    refine ⟨_, rfl, .inl ⟨rfl, _, SqL.of (smA _ _ h1)⟩, _, rfl, _, rfl, _, rfl, rSlA_all (same_sqt smA hc) fun tp H4 sm4 htp => ?_⟩
    rw [Int.zero_add, cut_take, adV_take] at htp
    dsimp only [L2.tNil]
    have smB := smA.trans sm4
    refine index_read (SqL.of (smB _ _ h1)) (paired_same smB h2) ⟨tp, rfl, htp⟩ (take_ad hpm k) ?_
    refine ⟨_, sm4 _ _ hD, small1000 (by rw [List.length_map, List.length_range]; omega), same_mut (sm.trans sm4) hDl, ?_⟩
    rw [upd_same, List.range_succ, List.map_append]
    rfl
  · rintro H' ⟨sm, hD⟩
    have ek : ((((adV p').length : Nat) : Int) + 1).toNat = p'.length + 1 := by rw [adV_len]; omega
    rw [ek] at hD
    refine ⟨Dl, _, rfl, .inl ⟨SqL.of hD, fun l hl => ⟨(by show 2 ≤ sizeLine; decide), fun t2 ht2 => ?_⟩⟩⟩
    have s5 : Same H' (upd H' l (.tup ((List.range (p'.length + 1)).map fun j => V.int (t.idx (p'.take j) : Nat)))) := same_new hl
    have s6 : Same (upd H' l (.tup ((List.range (p'.length + 1)).map fun j => V.int (t.idx (p'.take j) : Nat)))) (upd (upd H' l (.tup ((List.range (p'.length + 1)).map fun j => V.int (t.idx (p'.take j) : Nat)))) t2 (.tup [.str "told", .ref l])) := same_new ht2
    have eV : ((List.range (p'.length + 1)).map fun j => V.int (t.idx (p'.take j) : Nat)) = ((List.range (p'.length + 1)).map fun j => ((t.idx (p'.take j) : Nat) : Int)).map V.int := by
      rw [List.map_map]
      rfl
    have hd : Dp K (upd (upd H' l (.tup ((List.range (p'.length + 1)).map fun j => V.int (t.idx (p'.take j) : Nat)))) t2 (.tup [.str "told", .ref l])) (.ref l) (intsD ((List.range (p'.length + 1)).map fun j => ((t.idx (p'.take j) : Nat) : Int))) := by
      refine .tup ?_ (dpall_ints _)
      rw [← eV]
      exact SqT.of (s6 _ _ upd_same)
    have smC := sA.trans (sm.trans (s5.trans s6))
    have l2 := le.same smC
    refine ⟨_, rfl, _, rfl, _, rfl, a, 8, .int (i : Nat), .int 0, b, some (i : Nat), some 0, t, rfl, l2.tr, rfl, rfl, by decide, fun _ => ⟨fun v3 hv3 => ?_, fun bd => absurd bd (nbad 8 (by decide))⟩, fun h9 => absurd h9 (by decide)⟩
    obtain ⟨i2, p2, ee2, hl4, b3, rfl, hb3⟩ := hv3
    obtain rfl := inj i2 p2 ee2 hl4
    intro r4 H4 sm4 hr4
    have hd3 : Dp K H4 (.ref b3) (intsD ((List.range (p2.length + 1)).map fun j => ((t.idx (p2.take j) : Nat) : Int))) := by
      refine .tup ?_ (dpall_ints _)
      rw [← eV]
      exact same_sqt sm4 hb3
    exact ⟨_, rfl, .ref r4, .ref t2, .tuple [.str "told", intsD ((List.range (p2.length + 1)).map fun j => ((t.idx (p2.take j) : Nat) : Int))], rfl, dp_told hr4 hd3, dp_told (sm4 _ _ upd_same) (dp_same sm4 hd), plain_told (n := 14) (plain_ints (n := 13) (by rw [List.length_map, List.length_range]; omega)), fun H5 sm5 => q H5 (smC.trans (sm4.trans sm5))⟩
end
end K19

set_option Elab.async false
set_option linter.all false
set_option maxRecDepth 100000
set_option maxHeartbeats 4000000
namespace K19
open PySem PySem.Spec PyProof.Rows L2 Dt
/-- the first places that p and q have in common -/
def tLcp (K : PySem.W.Frag) : TS := fun D σ H => ∃ (x0 x1 x2 x3 x4 x9 : Option V) (b c : Addr) (p q : Ad) (o8 : Option V), σ = [x0, x1, x2, x3, x4, some (.ref b), some (.ref c), some (.int 0), o8, x9] ∧ SqT K H b (adV p) ∧ SqT K H c (adV q) ∧ p.length ≤ 1000 ∧ q.length ≤ 1000 ∧
  ∀ o8', D.nx [x0, x1, x2, x3, x4, some (.ref b), some (.ref c), some (.int (lcp p q : Nat)), o8', x9] H
theorem lcp_all {p q : Ad} (h : p.take (min p.length q.length) <+: q) : lcp p q = min p.length q.length := by
  have h1 := (lcp_pre p q (min p.length q.length) (Nat.min_le_left _ _)).mp h
  have h2 := lcp_le p q
  omega
theorem pre_step {p q : Ad} {i : Nat} (h1 : i < p.length) (h2 : i < q.length) (hp : p.take i <+: q) (e : p[i] = q[i]) : p.take (i + 1) <+: q := by
  obtain ⟨r, hr⟩ := hp
  refine ⟨q.drop (i + 1), ?_⟩
  have e2 : p.take i = q.take i := by
    have := congrArg (List.take i) hr
    rw [List.take_append_of_le_length (by rw [List.length_take]; omega), List.take_take, Nat.min_self] at this
    exact this
  rw [List.take_add_one, List.getElem?_eq_getElem h1, e2, e]
  show (q.take i ++ [q[i]]) ++ q.drop (i + 1) = q
  rw [List.append_assoc]
  show q.take i ++ (q[i] :: q.drop (i + 1)) = q
  rw [← List.drop_eq_getElem_cons h2, List.take_append_drop]
theorem lcp_right {p q : Ad} : lcp p q = q.length ↔ q <+: p := by
  have hl := lcp_le p q
  constructor
  · intro e
    have h1 := (lcp_pre p q q.length (by omega)).mpr (by omega)
    have h2 : p.take q.length = q := List.IsPrefix.eq_of_length h1 (by rw [List.length_take]; omega)
    exact ⟨p.drop q.length, by have z := List.take_append_drop q.length p; rw [h2] at z; exact z⟩
  · rintro ⟨r, rfl⟩
    have h1 := (lcp_pre (q ++ r) q q.length (by simp)).mp (by rw [List.take_left]; exact List.prefix_refl q)
    omega
theorem lcp_left {p q : Ad} : lcp p q = p.length ↔ p <+: q := by
  have hl := lcp_le p q
  have h := lcp_pre p q p.length (Nat.le_refl _)
  rw [List.take_length] at h
  rw [h]
  omega
section
variable {P : Program} {w : World} {K : PySem.W.Frag} {mg : Str → Option Value} {base : Heap} {C U : Addr}
theorem ok_pair_right (D : DefAt K mg "_law_pair_right" s_law_pair_right ["tree", "places", "first", "second", "named"]) (T : Txt K mg)
    (GT : CalX P w K mg base CX0 7 "_law_told" ["tree", "way", "first", "second", "named"] (spTold K C U)) (GS : CalX P w K mg base CX0 16 "_law_same" ["mine", "due"] (spSame K 16)) :
    CalX P w K mg base CX0 17 "_law_pair_right" ["tree", "places", "first", "second", "named"] (spPairRight K C) := by
  refine D.ok sc_law_pair_right (fun vs H Q E h => ?_) (fun f cdv A outer s H vs Q E hr h => ?_)
  · obtain ⟨a, Pl, Lv, v, t, i, j, b, rfl, _⟩ := h
    rfl
  obtain ⟨a, Pl, Lv, v, t, i, j, b, rfl, le, hi, hj, qq⟩ := h
  refine ⟨_, pss_cons (ps_set (i := 5) sc_law_pair_right.nd rfl (.inl rfl) (pe_ix ix_list (pv 1) (pv 2) (fun _ _ => rfl)))
    (pss_cons (ps_set (i := 6) sc_law_pair_right.nd rfl (.inl rfl) (pe_ix ix_list (pv 1) (pv 3) (fun _ _ => rfl)))
    (pss_cons (ps_set (i := 7) sc_law_pair_right.nd rfl (.inl rfl) pe_int)
    (pss_cons (ps_conv (t' := tLcp K) (ps_for PassesOwn.never rfl (pi_range1 rfl T.range (pa_cons (pe_callB (call_min2 rfl) (by rfl) T.min (by decide +kernel) (pa_cons (pe_callB call_len_seq (by rfl) T.len PySem.boot_len (pa_cons (pv 5) pa_nil)) (pa_cons (pe_callB call_len_seq (by rfl) T.len PySem.boot_len (pa_cons (pv 6) pa_nil)) pa_nil))) pa_nil)) (pg_name (i := 8) sc_law_pair_right.nd rfl (Or.inl rfl))
      (pss_cons (ps_if (pt_cmpR op_ne (pe_ix ix_tup (pv 5) (pv 8) (fun _ _ => rfl)) (pe_ix ix_tup (pv 6) (pv 8) (fun _ _ => rfl)) (nomark _)) (pss_one ps_break) pss_nil)
      (pss_one (ps_aug (i := 7) sc_law_pair_right.nd rfl (.inl rfl) pe_int ip_add)))) (by
        rintro D σ H ⟨x0, x1, x2, x3, x4, x9, b, c, p, q, o8, rfl, hb, hc, hp1, hq1, nx⟩
        have hsl := sizeLine_eq
        refine ⟨_, rfl, b, _, rfl, .inr hb, _, rfl, c, _, rfl, .inr hc, _, _, rfl, _, rfl, ?_, ?_, ?_⟩
        · rw [adV_len, adV_len]; split <;> omega
        · rw [adV_len, adV_len]; split <;> omega
        have en : (if ((adV q).length : Int) < ((adV p).length : Int) then ((adV q).length : Int) else ((adV p).length : Int)).toNat = min p.length q.length := by
          rw [adV_len, adV_len]; split <;> omega
        rw [en]
        refine for_range (lo := 0) (n := min p.length q.length) (fun i σ H' => ∃ o8', σ = [x0, x1, x2, x3, x4, some (.ref b), some (.ref c), some (.int (i : Nat)), o8', x9] ∧ H' = H ∧ p.take i <+: q) ⟨o8, rfl, rfl, by simp⟩ ?_ ?_
        · rintro i σ H' hi ⟨o8', rfl, rfl, hpre⟩
          have h1 : i < p.length := by omega
          have h2 : i < q.length := by omega
          refine ⟨_, rfl, _, rfl, b, _, _, _, rfl, rfl, hb, (by rw [Int.zero_add]; exact atI_nat (adV_at (List.getElem?_eq_getElem h1))), _, rfl, _, rfl, c, _, _, _, rfl, rfl, hc, (by rw [Int.zero_add]; exact atI_nat (adV_at (List.getElem?_eq_getElem h2))), rfl, _, rfl, ?_⟩
          by_cases e : p[i] = q[i]
          · have e' : (decide (V.int (p[i] : Nat) = V.int (q[i] : Nat))) = true := decide_eq_true (by rw [e])
            rw [e']
            refine iteF ?_
            refine ⟨_, rfl, _, _, rfl, rfl, ?_⟩
            exact ⟨_, rfl, rfl, pre_step h1 h2 hpre e⟩
          · have e' : (decide (V.int (p[i] : Nat) = V.int (q[i] : Nat))) = false := decide_eq_false fun z => by
              injection z with z
              exact e (by omega)
            rw [e']
            refine iteT ?_
            have el := lcp_first p q i hi (by
              rw [List.getElem?_eq_getElem h1, List.getElem?_eq_getElem h2]
              intro z
              exact e (Option.some.inj z)) hpre
            have := nx (some (.int (0 + (i : Nat))))
            rw [el] at this
            exact this
        · rintro σ H' ⟨o8', rfl, rfl, hpre⟩
          have := nx o8'
          rw [lcp_all hpre] at this
          exact this))
    (pss_cons (ps_if (pt_not (pt_val (pe_c0 GS hr (by decide) rfl (pa_cons (pe_c0 GT hr (by decide) rfl (pa_cons (pv 0) (pa_cons pe_int (pa_cons (pv 2) (pa_cons (pv 3) (pa_cons (pv 4) pa_nil)))))) (pa_cons (pe_tup (pa_cons pe_str (pa_cons (pe_bm PySem.F.plainAttrs_list PySem.F.slot_list_index PySem.F.type_list_index (mt_indexD (un65 hr)) (pv 1) (pa_cons (pe_slice sl_tupA (pv 5) po_none (po_some (pv 7))) pa_nil)) pa_nil))) pa_nil))))) (pss_one (ps_ret pe_bl)) pss_nil)
    (pss_cons (ps_if (pt_not (pt_val (pe_c0 GS hr (by decide) rfl (pa_cons (pe_c0 GT hr (by decide) rfl (pa_cons (pv 0) (pa_cons pe_int (pa_cons (pv 2) (pa_cons (pv 3) (pa_cons (pv 4) pa_nil)))))) (pa_cons (pe_tup (pa_cons pe_str (pa_cons (pe_cmpR op_eq (pv 7) (pe_callB call_len_seq (by rfl) T.len PySem.boot_len (pa_cons (pv 6) pa_nil)) (nomark _)) pa_nil))) pa_nil))))) (pss_one (ps_ret pe_bl)) pss_nil)
    (pss_cons (ps_set (i := 9) sc_law_pair_right.nd rfl (.inl rfl) (pe_tup (pa_cons pe_str (pa_cons pe_str (pa_cons (pe_un un_neg pe_int) pa_nil)))))
    (pss_cons (ps_if (PW.pt (pw_and (pt_cmpR op_eq (pv 7) (pe_callB call_len_seq (by rfl) T.len PySem.boot_len (pa_cons (pv 5) pa_nil)) (nomark _)) (pw_and1 (pt_cmpR op_lt (pv 7) (pe_callB call_len_seq (by rfl) T.len PySem.boot_len (pa_cons (pv 6) pa_nil)) (nomark _)))))
      (pss_one (ps_set (i := 9) sc_law_pair_right.nd rfl (.inl rfl) (pe_tup (pa_cons pe_str (pa_cons (pe_ix ix_tup (pv 6) (pv 7) (fun _ _ => rfl)) pa_nil))))) pss_nil)
    (pss_one (ps_ret (pe_c0 GS hr (by decide) rfl (pa_cons (pe_c0 GT hr (by decide) rfl (pa_cons (pv 0) (pa_cons pe_int (pa_cons (pv 2) (pa_cons (pv 3) (pa_cons (pv 4) pa_nil)))))) (pa_cons (pv 9) pa_nil))))))))))))  , ?_⟩
  obtain ⟨xs, h1, h2⟩ := le.pl
  have n1 := le.n1
  have hia : i < (ad t).length := by rw [ad_len]; exact hi
  have hja : j < (ad t).length := by rw [ad_len]; exact hj
  obtain ⟨vp, e1, bp, rfl, hb⟩ := Paired.at h2 (List.getElem?_eq_getElem hia)
  obtain ⟨vq, e2, bq, rfl, hc⟩ := Paired.at h2 (List.getElem?_eq_getElem hja)
  have hpm : (ad t)[i] ∈ ad t := List.getElem_mem hia
  have hqm : (ad t)[j] ∈ ad t := List.getElem_mem hja
  have hpi := idx_of (List.getElem?_eq_getElem hia)
  have hqi := idx_of (List.getElem?_eq_getElem hja)
  generalize (ad t)[i] = p at hpm hpi e1 hb
  generalize (ad t)[j] = q at hqm hqi e2 hc
  have lenp : ∀ r, r ∈ ad t → r.length ≤ 1000 := fun r hr2 => by
    obtain ⟨u, hu⟩ := ad_sub hr2
    have := len_idx t r u hu
    have := idx_lt hu
    omega
  have hp1 := lenp p hpm
  have hq1 := lenp q hqm
  have inj : ∀ (k : Nat) (r r' : Ad), t.idx r = k → r ∈ ad t → some ((k : Nat) : Int) = some ((t.idx r' : Nat) : Int) → r' ∈ ad t → r' = r := fun k r r' e hr1 e2 hr2 => by
    injection e2 with e2
    exact idx_inj hr2 hr1 (by omega)
  have nb : ∀ k, k < t.nodes → belowB (t.nodes : Nat) (some ((k : Nat) : Int)) = false → False := fun k hk h => by
    have : belowB (t.nodes : Nat) (some ((k : Nat) : Int)) = true := by
      show (decide ((0 : Int) ≤ (k : Nat)) && decide (((k : Nat) : Int) < (t.nodes : Nat))) = true
      rw [Bool.and_eq_true]
      exact ⟨decide_eq_true (by omega), decide_eq_true (by omega)⟩
    rw [this] at h
    exact nomatch h
  have hsl := sizeLine_eq
  have ll := lcp_le p q
  refine ⟨_, rfl, _, rfl, Pl, _, _, _, rfl, rfl, SqL.of h1, atI_nat e1, ?_⟩
  refine ⟨_, rfl, _, rfl, Pl, _, _, _, rfl, rfl, SqL.of h1, atI_nat e2, ?_⟩
  refine ⟨_, _, _, _, _, _, bp, bq, p, q, _, rfl, hb, hc, hp1, hq1, fun o8 => ?_⟩
  -- the meet
  refine ⟨_, rfl, _, rfl, _, rfl, _, rfl, a, 9, .int (i : Nat), .int (j : Nat), b, some (i : Nat), some (j : Nat), t, rfl, le.tr, rfl, rfl, by decide, fun h9 => absurd h9 (by decide), fun _ => ⟨fun z => (nb i hi z).elim, fun _ z => (nb j hj z).elim, fun p' q' z1 z2 m1 m2 => ?_⟩⟩
  obtain rfl := inj i p p' hpi hpm z1 m1
  obtain rfl := inj j q q' hqi hqm z2 m2
  intro r1 H1 sm1 hr1
  refine ⟨_, rfl, .inl ⟨rfl, _, SqL.of (sm1 _ _ h1)⟩, _, rfl, _, rfl, _, rfl, rSlA_all (same_sqt sm1 hb) fun tp H2 sm2 htp => ?_⟩
  rw [cut_take, adV_take] at htp
  dsimp only [L2.tNil]
  have sB := sm1.trans sm2
  refine index_read (SqL.of (sB _ _ h1)) (paired_same sB h2) ⟨tp, rfl, htp⟩ (take_ad hpm _) ⟨(by show 2 ≤ sizeLine; decide), fun t1 ht1 => ?_⟩
  have s3 : Same H2 (upd H2 t1 (.tup [.str "told", .int (t.idx (p'.take (lcp p' q')) : Nat)])) := same_new ht1
  refine ⟨.ref r1, .ref t1, .tuple [.str "told", .int (t.idx (p'.take (lcp p' q')) : Nat)], rfl, dp_told (s3 _ _ (sm2 _ _ hr1)) (.int _), dp_told upd_same (.int _), plain_told (n := 14) trivial, fun H3 sm3 => ?_⟩
  refine ⟨_, rfl, ?_⟩
  refine iteF ?_
  have sC := sB.trans (s3.trans sm3)
  have l3 := le.same sC
  -- within
  refine ⟨_, rfl, _, rfl, _, rfl, _, rfl, a, 10, .int (i : Nat), .int (j : Nat), b, some (i : Nat), some (j : Nat), t, rfl, l3.tr, rfl, rfl, by decide, fun h9 => absurd h9 (by decide), fun _ => ⟨fun z => (nb i hi z).elim, fun _ z => (nb j hj z).elim, fun p2 q2 z1 z2 m1 m2 => ?_⟩⟩
  obtain rfl := inj i p' p2 hpi hpm z1 m1
  obtain rfl := inj j q' q2 hqi hqm z2 m2
  intro r4 H4 sm4 hr4
  have sD := sC.trans sm4
  refine ⟨_, rfl, _, rfl, bq, _, rfl, .inr (same_sqt sD hc), rfl, (by show 2 ≤ sizeLine; decide), fun t5 ht5 => ?_⟩
  have eb : V.bl (decide (V.int (lcp p2 q2 : Nat) = V.int ((adV q2).length : Nat))) = V.bl (decide (q2 <+: p2)) := by
    congr 1
    refine decide_eq_decide.mpr ?_
    rw [← lcp_right, adV_len]
    constructor
    · intro z
      injection z with z
      omega
    · intro z
      rw [z]
  rw [eb]
  have s5 : Same H4 (upd H4 t5 (.tup [.str "told", .bl (decide (q2 <+: p2))])) := same_new ht5
  refine ⟨.ref r4, .ref t5, .tuple [.str "told", .bool (decide (q2 <+: p2))], rfl, dp_told (s5 _ _ hr4) (.bl _), dp_told upd_same (.bl _), plain_told (n := 14) trivial, fun H6 sm6 => ?_⟩
  refine ⟨_, rfl, ?_⟩
  refine iteF ?_
  have sE := sD.trans (s5.trans sm6)
  -- due = ('refused', 'down', -1)
  refine ⟨1, rfl, (by show 3 ≤ sizeLine; decide), fun t7 ht7 => ?_⟩
  have s7 : Same H6 (upd H6 t7 (.tup [.str "refused", .str "down", .int (-1)])) := same_new ht7
  have h7 : (upd H6 t7 (.tup [.str "refused", .str "down", .int (-1)])) t7 = some (.tup [.str "refused", .str "down", .int (-1)]) := upd_same
  have sF := sE.trans s7
  revert h7 sF
  generalize upd H6 t7 (.tup [.str "refused", .str "down", .int (-1)]) = H7
  intro h7 sF
  -- the last question, whatever stands in due
  have last : ∀ (H8 : Hp) (dd : Addr) (QQ : VK), (∀ x H9, spSame K 16 [x, .ref dd] H9 Q E0 → QQ x H9) → Same H7 H8 → (¬ (q2 ≠ p2 ∧ p2 <+: q2) → H8 dd = some (.tup [.str "refused", .str "down", .int (-1)])) → (∀ n, p2 <+: q2 → q2[p2.length]? = some n → H8 dd = some (.tup [.str "told", .int (n : Nat)])) →
      spTold K C U [.ref a, .int (11 : Nat), .int (i : Nat), .int (j : Nat), .bl b] H8 QQ E0 := by
    intro H8 dd QQ hQQ sm8 r1 r2
    have l8 := le.same (sF.trans sm8)
    refine ⟨a, 11, .int (i : Nat), .int (j : Nat), b, some (i : Nat), some (j : Nat), t, rfl, l8.tr, rfl, rfl, by decide, fun h9 => absurd h9 (by decide), fun _ => ⟨fun z => (nb i hi z).elim, fun _ z => (nb j hj z).elim, fun p3 q3 z1 z2 m1 m2 => ?_⟩⟩
    obtain rfl := inj i p2 p3 hpi hpm z1 m1
    obtain rfl := inj j q2 q3 hqi hqm z2 m2
    refine ⟨fun n hpq hn => ?_, fun hno => ?_⟩
    · intro r9 H9 sm9 hr9
      exact hQQ _ _ ⟨.ref r9, .ref dd, .tuple [.str "told", .int (n : Nat)], rfl, dp_told hr9 (.int _), dp_told (sm9 _ _ (r2 n hpq hn)) (.int _), plain_told (n := 14) trivial, fun H10 sm10 => qq H10 (sF.trans (sm8.trans (sm9.trans sm10)))⟩
    · intro r9 H9 sm9 hr9
      exact hQQ _ _ ⟨.ref r9, .ref dd, .tuple [.str "refused", .str "down", .int (-1)], rfl, dp_ref hr9, dp_ref (sm9 _ _ (r1 hno)), plain_ref (n := 14), fun H10 sm10 => qq H10 (sF.trans (sm8.trans (sm9.trans sm10)))⟩
  refine ⟨_, rfl, _, rfl, bp, _, rfl, .inr (same_sqt sF hb), rfl, _, rfl, ?_⟩
  refine ite2 (fun c1 => ?_) (fun c1 => ?_)
  · have c1' : lcp p2 q2 = p2.length := by
      have z := of_decide_eq_true c1
      injection z with z
      rw [adV_len] at z
      omega
    refine ⟨_, rfl, _, rfl, bq, _, rfl, .inr (same_sqt sF hc), _, _, rfl, rfl, _, rfl, ?_⟩
    refine ite2 (fun c2 => ?_) (fun c2 => ?_)
    · have c2' : p2.length < q2.length := by
        have z : ((lcp p2 q2 : Nat) : Int) < (((adV q2).length : Nat) : Int) := of_decide_eq_true c2
        rw [adV_len] at z
        omega
      refine ⟨_, rfl, _, rfl, bq, _, _, _, rfl, rfl, same_sqt sF hc, (by rw [c1']; exact atI_nat (adV_at (List.getElem?_eq_getElem c2'))), (by show 2 ≤ sizeLine; decide), fun t8 ht8 => ?_⟩
      refine ⟨_, rfl, _, rfl, _, rfl, _, rfl, ?_⟩
      dsimp only [L2.tNil]
      refine last _ t8 _ (fun x H9 h => ⟨_, rfl, h⟩) (same_new ht8) (fun hno => ?_) (fun n hpq hn => ?_)
      · exfalso
        refine hno ⟨fun z => by rw [z] at c2'; omega, lcp_left.mp c1'⟩
      · rw [List.getElem?_eq_getElem c2'] at hn
        obtain rfl := Option.some.inj hn
        exact upd_same
    · have c2' : ¬ p2.length < q2.length := fun z => c2 (decide_eq_true (show ((lcp p2 q2 : Nat) : Int) < (((adV q2).length : Nat) : Int) by rw [adV_len]; omega))
      refine ⟨_, rfl, _, rfl, _, rfl, _, rfl, ?_⟩
      dsimp only [L2.tNil]
      refine last H7 t7 _ (fun x H9 h => ⟨_, rfl, h⟩) (fun _ _ z => z) (fun _ => h7) (fun n hpq hn => ?_)
      have := (List.getElem?_eq_some_iff.mp hn).1
      omega
  · have c1' : ¬ lcp p2 q2 = p2.length := fun z => c1 (decide_eq_true (by rw [adV_len, z]))
    refine iteF ?_
    refine ⟨_, rfl, _, rfl, _, rfl, _, rfl, ?_⟩
    dsimp only [L2.tNil]
    refine last H7 t7 _ (fun x H9 h => ⟨_, rfl, h⟩) (fun _ _ z => z) (fun _ => h7) (fun n hpq hn => ?_)
    exact absurd (lcp_left.mpr hpq) c1'
end
end K19

set_option Elab.async false
set_option linter.all false
set_option maxRecDepth 100000
set_option maxHeartbeats 4000000
namespace K19
open PySem PySem.Spec PyProof.Rows L2 Dt
/-! ### the memory but for the tape -/
def mem (tp g : Addr) (H : Hp) : Hp := fun y => if y = tp ∨ y = g then none else H y
theorem mem_same (tp g : Addr) (H : Hp) : Same (mem tp g H) H := fun y o h => by
  unfold mem at h
  by_cases c : y = tp ∨ y = g
  · rw [if_pos c] at h
    exact nomatch h
  · rw [if_neg c] at h
    exact h
theorem mem_keep {tp g : Addr} {H H' : Hp} (k : KeepB tp g H H') : Same (mem tp g H) (mem tp g H') := fun y o h => by
  have h2 := mem_same tp g H y o h
  unfold mem at h ⊢
  by_cases c : y = tp ∨ y = g
  · rw [if_pos c] at h
    exact nomatch h
  · rw [if_neg c]
    exact k y o h2 (fun z => c (.inl z)) (fun z => c (.inr z))
theorem mem_at {tp g : Addr} {H : Hp} {y : Addr} {o : HO} (h : H y = some o) (h1 : y ≠ tp) (h2 : y ≠ g) : mem tp g H y = some o := by
  unfold mem
  rw [if_neg (fun z => z.elim h1 h2)]
  exact h
theorem KeepB.refl (tp g : Addr) (H : Hp) : KeepB tp g H H := fun _ _ h _ _ => h
theorem KeepB.same {tp g : Addr} {H H1 H2 : Hp} (k : KeepB tp g H H1) (e : Same H1 H2) : KeepB tp g H H2 := fun y o h h1 h2 => e _ _ (k y o h h1 h2)
theorem KeepB.but {tp g : Addr} {H H1 H2 : Hp} (k : KeepB tp g H H1) (e : But tp g H1 H2) : KeepB tp g H H2 := fun y o h h1 h2 => by rw [e y h1 h2]; exact k y o h h1 h2
theorem KeepB.trans {tp g : Addr} {H H1 H2 : Hp} (k : KeepB tp g H H1) (e : KeepB tp g H1 H2) : KeepB tp g H H2 := fun y o h h1 h2 => e y o (k y o h h1 h2) h1 h2
theorem Tape.ne {H : Hp} {tp g y : Addr} (t : Tape H tp g) (h : H y = none) : y ≠ tp ∧ y ≠ g := by
  obtain ⟨_, gs, i, h1, h2, _⟩ := t
  exact ⟨(fun z => by rw [z, h1] at h; exact nomatch h), (fun z => by rw [z, h2] at h; exact nomatch h)⟩
def spOdd (K : PySem.W.Frag) : Sp := fun vs H Q _ => ∃ (tp g : Addr) (n : Nat), vs = [.ref tp, .int (n : Nat)] ∧ Tape H tp g ∧ 1 ≤ n ∧ n ≤ 1000 ∧ ∀ H' x o, Tape H' tp g → KeepB tp g H H' → NumV K (mem tp g H') x o → belowB (n : Nat) o = false → Q x H'
section
variable {P : Program} {w : World} {K : PySem.W.Frag} {mg : Str → Option Value} {base : Heap} {C U : Addr}
theorem below_neg {n : Nat} {i : Int} (h : i < 0 ∨ (n : Int) ≤ i) : belowB (n : Nat) (some i) = false := by
  show (decide (0 ≤ i) && decide (i < (n : Nat))) = false
  rcases h with h | h
  · rw [decide_eq_false (by omega)]; rfl
  · rw [decide_eq_false (show ¬ i < (n : Int) by omega), Bool.and_false]
theorem ok_odd (D : DefAt K mg "_law_odd" s_law_odd ["tape", "many"]) (T : Txt K mg) (GP : CalX P w K mg base CX0 1 "_law_pick" ["tape", "span"] spPick) : CalX P w K mg base CX0 2 "_law_odd" ["tape", "many"] (spOdd K) := by
  refine D.ok sc_law_odd (fun vs H Q E h => ?_) (fun f cdv A outer s H vs Q E hr h => ?_)
  · obtain ⟨tp, g, n, rfl, _⟩ := h
    rfl
  obtain ⟨tp, g, n, rfl, hT, hn1, hn2, q⟩ := h
  refine ⟨_, pss_cons (ps_set (i := 2) sc_law_odd.nd rfl (.inl rfl) (pe_lst (pa_cons (pe_un un_neg pe_int) (pa_cons (pv 1) (pa_cons (pe_op op_add (pe_op op_add (pv 1) pe_int) (pe_c0 GP hr (by decide) rfl (pa_cons (pv 0) (pa_cons pe_int pa_nil)))) (pa_cons pe_bl (pa_cons pe_bl (pa_cons pe_non (pa_cons pe_str (pa_cons (pe_tup (pa_cons pe_int pa_nil)) (pa_cons (pe_lst (pa_cons pe_int pa_nil)) (pa_cons (pe_un un_neg (pv 1)) (pa_cons pe_str (pa_cons (pe_tup pa_nil) pa_nil))))))))))))))
    (pss_one (ps_ret (pe_ix ix_list (pv 2) (pe_c0 GP hr (by decide) rfl (pa_cons (pv 0) (pa_cons (pe_callB call_len_seq (by rfl) T.len PySem.boot_len (pa_cons (pv 2) pa_nil)) pa_nil))) (fun _ _ => rfl)))), ?_⟩
  refine ⟨1, rfl, _, rfl, _, rfl, _, _, rfl, rfl, _, rfl, tp, g, 60, rfl, hT, by decide, by decide, fun H1 r hr1 hT1 hB1 => ⟨_, _, rfl, rfl, ?_⟩⟩
  refine ⟨(by show 1 ≤ sizeLine; decide), fun t1 ht1 => ⟨(by show 1 ≤ sizeLine; decide), fun l1 hl1 => ⟨_, rfl, _, rfl, (by show 0 ≤ sizeLine; decide), fun t2 ht2 => ⟨(by show 12 ≤ sizeLine; decide), fun l2 hl2 => ?_⟩⟩⟩⟩
  have s1 : Same H1 (upd H1 t1 (.tup [.int 0])) := same_new ht1
  have s2 : Same (upd H1 t1 (.tup [.int 0])) (upd (upd H1 t1 (.tup [.int 0])) l1 (.lst [.int 0])) := same_new hl1
  have s3 : Same (upd (upd H1 t1 (.tup [.int 0])) l1 (.lst [.int 0])) (upd (upd (upd H1 t1 (.tup [.int 0])) l1 (.lst [.int 0])) t2 (.tup [])) := same_new ht2
  have s4 := same_new (o := .lst [V.int (-1), V.int (n : Nat), V.int (((n : Nat) : Int) + 1 + (r : Nat)), V.bl true, V.bl false, V.non, V.str "0", V.ref t1, V.ref l1, V.int (-((n : Nat) : Int)), V.str "", V.ref t2]) hl2
  have hL := (upd_same : (upd (upd (upd (upd H1 t1 (.tup [.int 0])) l1 (.lst [.int 0])) t2 (.tup [])) l2 (.lst [V.int (-1), V.int (n : Nat), V.int (((n : Nat) : Int) + 1 + (r : Nat)), V.bl true, V.bl false, V.non, V.str "0", V.ref t1, V.ref l1, V.int (-((n : Nat) : Int)), V.str "", V.ref t2])) l2 = _)
  have e1 := s4 _ _ (s3 _ _ (s2 _ _ (show (upd H1 t1 (.tup [.int 0])) t1 = some (.tup [.int 0]) from upd_same)))
  have e2 := s4 _ _ (s3 _ _ (show (upd (upd H1 t1 (.tup [.int 0])) l1 (.lst [.int 0])) l1 = some (.lst [.int 0]) from upd_same))
  have e3 := s4 _ _ (show (upd (upd (upd H1 t1 (.tup [.int 0])) l1 (.lst [.int 0])) t2 (.tup [])) t2 = some (.tup []) from upd_same)
  have sA := s1.trans (s2.trans (s3.trans s4))
  have n1 := hT1.ne ht1
  have n2 := hT1.ne (s1.free hl1)
  have n3 := hT1.ne (s1.free (s2.free ht2))
  have n4 := hT1.ne (s1.free (s2.free (s3.free hl2)))
  have hT2 := hT1.same sA
  have kA : KeepB tp g H _ := ((KeepB.refl tp g H).but hB1).same sA
  revert hL e1 e2 e3 sA hT2 kA
  generalize upd (upd (upd (upd H1 t1 (.tup [.int 0])) l1 (.lst [.int 0])) t2 (.tup [])) l2 (.lst [V.int (-1), V.int (n : Nat), V.int (((n : Nat) : Int) + 1 + (r : Nat)), V.bl true, V.bl false, V.non, V.str "0", V.ref t1, V.ref l1, V.int (-((n : Nat) : Int)), V.str "", V.ref t2]) = H2
  intro hL e1 e2 e3 sA hT2 kA
  refine ⟨_, rfl, _, rfl, _, rfl, l2, _, rfl, .inl (SqL.of hL), tp, g, 12, rfl, hT2, by decide, by decide, fun H3 k hk hT3 hB3 => ?_⟩
  have kB := kA.but hB3
  have hL3 : H3 l2 = _ := (hB3 l2 n4.1 n4.2).trans hL
  have f1 : H3 t1 = _ := (hB3 t1 n1.1 n1.2).trans e1
  have f2 : H3 l1 = _ := (hB3 l1 n2.1 n2.2).trans e2
  have f3 : H3 t2 = _ := (hB3 t2 n3.1 n3.2).trans e3
  have fin : ∀ x o, ([V.int (-1), V.int (n : Nat), V.int (((n : Nat) : Int) + 1 + (r : Nat)), V.bl true, V.bl false, V.non, V.str "0", V.ref t1, V.ref l1, V.int (-((n : Nat) : Int)), V.str "", V.ref t2] : List V)[k]? = some x → NumV K (mem tp g H3) x o → belowB (n : Nat) o = false → Q x H3 := fun x o _ h1 h2 => q H3 x o hT3 kB h1 h2
  have hk' : k = 0 ∨ k = 1 ∨ k = 2 ∨ k = 3 ∨ k = 4 ∨ k = 5 ∨ k = 6 ∨ k = 7 ∨ k = 8 ∨ k = 9 ∨ k = 10 ∨ k = 11 := by omega
  rcases hk' with rfl | rfl | rfl | rfl | rfl | rfl | rfl | rfl | rfl | rfl | rfl | rfl
  · exact ⟨l2, _, _, _, rfl, rfl, SqL.of hL3, rfl, fin _ (some (-1)) rfl rfl (below_neg (.inl (by decide)))⟩
  · exact ⟨l2, _, _, _, rfl, rfl, SqL.of hL3, rfl, fin _ (some (n : Nat)) rfl rfl (below_neg (.inr (Int.le_refl _)))⟩
  · exact ⟨l2, _, _, _, rfl, rfl, SqL.of hL3, rfl, fin _ (some (((n : Nat) : Int) + 1 + (r : Nat))) rfl rfl (below_neg (.inr (by omega)))⟩
  · exact ⟨l2, _, _, _, rfl, rfl, SqL.of hL3, rfl, fin _ none rfl ⟨"bool", kind_bl true, by decide⟩ rfl⟩
  · exact ⟨l2, _, _, _, rfl, rfl, SqL.of hL3, rfl, fin _ none rfl ⟨"bool", kind_bl false, by decide⟩ rfl⟩
  · exact ⟨l2, _, _, _, rfl, rfl, SqL.of hL3, rfl, fin _ none rfl ⟨"NoneType", kind_non, by decide⟩ rfl⟩
  · exact ⟨l2, _, _, _, rfl, rfl, SqL.of hL3, rfl, fin _ none rfl ⟨"str", kind_str _, by decide⟩ rfl⟩
  · exact ⟨l2, _, _, _, rfl, rfl, SqL.of hL3, rfl, fin _ none rfl ⟨"tuple", kind_tup (mem_at f1 n1.1 n1.2), by decide⟩ rfl⟩
  · exact ⟨l2, _, _, _, rfl, rfl, SqL.of hL3, rfl, fin _ none rfl ⟨"list", kind_lst (mem_at f2 n2.1 n2.2), by decide⟩ rfl⟩
  · exact ⟨l2, _, _, _, rfl, rfl, SqL.of hL3, rfl, fin _ (some (-((n : Nat) : Int))) rfl rfl (below_neg (.inl (by omega)))⟩
  · exact ⟨l2, _, _, _, rfl, rfl, SqL.of hL3, rfl, fin _ none rfl ⟨"str", kind_str _, by decide⟩ rfl⟩
  · exact ⟨l2, _, _, _, rfl, rfl, SqL.of hL3, rfl, fin _ none rfl ⟨"tuple", kind_tup (mem_at f3 n3.1 n3.2), by decide⟩ rfl⟩
theorem NumV.same {K : PySem.W.Frag} {H H' : Hp} (e : Same H H') {x : V} {o : Option Int} (h : NumV K H x o) : NumV K H' x o := by
  cases o with
  | some i => exact h
  | none =>
    obtain ⟨t, h1, h2⟩ := h
    exact ⟨t, same_kind e h1, h2⟩
theorem lf_pos : ∀ t : Dt, 1 ≤ t.lf
  | x => Nat.le_refl 1
  | o => Nat.le_refl 1
  | c k r => by
    have h1 := lf_pos k
    have h2 := low_le (show sub (c k r) [0] = some k from sub_nil k)
    omega
theorem ans_below {K : PySem.W.Frag} {H : Hp} {T : Dt} {o : Option Int} : ∀ {way : Nat} {v : V}, AnsV K H T o way v → ¬ badO T o way := by
  have nd : ∀ p, o = some ((T.idx p : Nat) : Int) → p ∈ ad T → ¬ belowB (T.nodes : Nat) o = false := fun p e hp z => by
    rw [e, ad_below hp] at z
    exact nomatch z
  have lf : ∀ (i : Nat) (p : Ad), o = some ((i : Nat) : Int) → (lv T)[i]? = some p → ¬ belowB (T.lf : Nat) o = false := fun i p e hp z => by
    have hi := (List.getElem?_eq_some_iff.mp hp).1
    have hi' : i < T.lf := hi
    have : belowB (T.lf : Nat) (some ((i : Nat) : Int)) = true := by
      show (decide ((0 : Int) ≤ (i : Nat)) && decide (((i : Nat) : Int) < (T.lf : Nat))) = true
      rw [Bool.and_eq_true]
      exact ⟨decide_eq_true (by omega), decide_eq_true (by omega)⟩
    rw [e, this] at z
    exact nomatch z
  intro way v h
  match way, h with
  | 0, ⟨p, e, hp, _⟩ => exact nd p e hp
  | 1, ⟨p, e, hp, _⟩ => exact nd p e hp
  | 2, ⟨p, e, hp, _⟩ => exact nd p e hp
  | 3, ⟨p, e, hp, _⟩ => exact nd p e hp
  | 4, ⟨p, e, hp, _⟩ => exact nd p e hp
  | 5, ⟨p, e, hp, _⟩ => exact nd p e hp
  | 6, ⟨p, e, hp, _⟩ => exact nd p e hp
  | 7, ⟨i, p, e, hp, _⟩ => exact lf i p e hp
  | n + 8, ⟨i, p, e, hp, _⟩ =>
    have : ¬ n + 8 < 7 := by omega
    unfold badO
    rw [if_neg this]
    exact lf i p e hp
theorem firsts_at {way : Nat} (h1 : 9 ≤ way) (h2 : way < 12) : atI [V.str "one", V.str "node", V.str "node"] (((way : Nat) : Int) - 9) = some (.str (word1 (way - 9))) ∧ atI [V.str "other", V.str "top", V.str "down"] (((way : Nat) : Int) - 9) = some (.str (word2 (way - 9))) := by
  have h3 : way = 9 ∨ way = 10 ∨ way = 11 := by omega
  rcases h3 with rfl | rfl | rfl <;> exact ⟨rfl, rfl⟩
def spRefuses (K : PySem.W.Frag) (C : Addr) : Sp := fun vs H Q _ => ∃ (tp g a Pl Lv : Addr) (v : V) (T : Dt) (b : Bool), vs = [.ref tp, .ref a, .ref Pl, .ref Lv, .bl b] ∧ Tape H tp g ∧ LawEnv K (mem tp g H) C a v Pl Lv T ∧ ∀ H', Tape H' tp g → KeepB tp g H H' → Q (.bl true) H'
theorem ok_refuses (D : DefAt K mg "_law_refuses" s_law_refuses ["tape", "tree", "places", "leaves", "named"]) (T : Txt K mg) (GP : CalX P w K mg base CX0 1 "_law_pick" ["tape", "span"] spPick) (GO : CalX P w K mg base CX0 2 "_law_odd" ["tape", "many"] (spOdd K))
    (GT : CalX P w K mg base CX0 7 "_law_told" ["tree", "way", "first", "second", "named"] (spTold K C U)) (GS : CalX P w K mg base CX0 16 "_law_same" ["mine", "due"] (spSame K 16)) :
    CalX P w K mg base CX0 17 "_law_refuses" ["tape", "tree", "places", "leaves", "named"] (spRefuses K C) := by
  refine D.ok sc_law_refuses (fun vs H Q E h => ?_) (fun f cdv A outer s H vs Q E hr h => ?_)
  · obtain ⟨tp, g, a, Pl, Lv, v, t, b, rfl, _⟩ := h
    rfl
  obtain ⟨tp, g, a, Pl, Lv, v, t, b, rfl, hT, le, q⟩ := h
  refine ⟨_, pss_cons (ps_set (i := 5) sc_law_refuses.nd rfl (.inl rfl) (pe_c0 GP hr (by decide) rfl (pa_cons (pv 0) (pa_cons pe_int pa_nil))))
    (pss_cons (ps_if (pt_cmpR op_lt (pv 5) pe_int (nomark _)) (pss_cons (ps_set (i := 6) sc_law_refuses.nd rfl (.inl rfl) (pe_tup (pa_cons pe_str (pa_cons pe_str (pa_cons (pe_un un_neg pe_int) pa_nil))))) (pss_one (ps_ret (pe_c0 GS hr (by decide) rfl (pa_cons (pe_c0 GT hr (by decide) rfl (pa_cons (pv 1) (pa_cons (pv 5) (pa_cons (pe_c0 GO hr (by decide) rfl (pa_cons (pv 0) (pa_cons (pe_callB call_len_seq (by rfl) T.len PySem.boot_len (pa_cons (pv 2) pa_nil)) pa_nil))) (pa_cons pe_int (pa_cons (pv 4) pa_nil)))))) (pa_cons (pv 6) pa_nil)))))) pss_nil)
    (pss_cons (ps_if (pt_cmpR op_lt (pv 5) pe_int (nomark _)) (pss_cons (ps_set (i := 6) sc_law_refuses.nd rfl (.inl rfl) (pe_tup (pa_cons pe_str (pa_cons pe_str (pa_cons (pe_un un_neg pe_int) pa_nil))))) (pss_one (ps_ret (pe_c0 GS hr (by decide) rfl (pa_cons (pe_c0 GT hr (by decide) rfl (pa_cons (pv 1) (pa_cons (pv 5) (pa_cons (pe_c0 GO hr (by decide) rfl (pa_cons (pv 0) (pa_cons (pe_callB call_len_seq (by rfl) T.len PySem.boot_len (pa_cons (pv 3) pa_nil)) pa_nil))) (pa_cons pe_int (pa_cons (pv 4) pa_nil)))))) (pa_cons (pv 6) pa_nil)))))) pss_nil)
    (pss_cons (ps_set (i := 7) sc_law_refuses.nd rfl (.inl rfl) (pe_c0 GO hr (by decide) rfl (pa_cons (pv 0) (pa_cons (pe_callB call_len_seq (by rfl) T.len PySem.boot_len (pa_cons (pv 2) pa_nil)) pa_nil))))
    (pss_cons (ps_set (i := 8) sc_law_refuses.nd rfl (.inl rfl) (pe_c0 GP hr (by decide) rfl (pa_cons (pv 0) (pa_cons (pe_callB call_len_seq (by rfl) T.len PySem.boot_len (pa_cons (pv 2) pa_nil)) pa_nil))))
    (pss_cons (ps_set (i := 9) sc_law_refuses.nd rfl (.inl rfl) (pe_lst (pa_cons pe_str (pa_cons pe_str (pa_cons pe_str pa_nil)))))
    (pss_cons (ps_set (i := 10) sc_law_refuses.nd rfl (.inl rfl) (pe_lst (pa_cons pe_str (pa_cons pe_str (pa_cons pe_str pa_nil)))))
    (pss_cons (ps_if (pt_cmpR op_eq (pe_c0 GP hr (by decide) rfl (pa_cons (pv 0) (pa_cons pe_int pa_nil))) pe_int (nomark _))
      (pss_cons (ps_set (i := 11) sc_law_refuses.nd rfl (.inl rfl) (pe_ix ix_list (pe_lst (pa_cons (pv 8) (pa_cons (pe_c0 GO hr (by decide) rfl (pa_cons (pv 0) (pa_cons (pe_callB call_len_seq (by rfl) T.len PySem.boot_len (pa_cons (pv 2) pa_nil)) pa_nil))) pa_nil))) (pe_c0 GP hr (by decide) rfl (pa_cons (pv 0) (pa_cons pe_int pa_nil))) (fun _ _ => rfl))) (pss_one (ps_ret (pe_c0 GS hr (by decide) rfl (pa_cons (pe_c0 GT hr (by decide) rfl (pa_cons (pv 1) (pa_cons (pv 5) (pa_cons (pv 7) (pa_cons (pv 11) (pa_cons (pv 4) pa_nil)))))) (pa_cons (pe_tup (pa_cons pe_str (pa_cons (pe_ix ix_list (pv 9) (pe_op op_sub (pv 5) pe_int) (fun _ _ => rfl)) (pa_cons (pe_un un_neg pe_int) pa_nil)))) pa_nil)))))) pss_nil)
    (pss_one (ps_ret (pe_c0 GS hr (by decide) rfl (pa_cons (pe_c0 GT hr (by decide) rfl (pa_cons (pv 1) (pa_cons (pv 5) (pa_cons (pv 8) (pa_cons (pv 7) (pa_cons (pv 4) pa_nil)))))) (pa_cons (pe_tup (pa_cons pe_str (pa_cons (pe_ix ix_list (pv 10) (pe_op op_sub (pv 5) pe_int) (fun _ _ => rfl)) (pa_cons (pe_un un_neg pe_int) pa_nil)))) pa_nil)))))))))))), ?_⟩
  have n1 := le.n1
  have np := t.nodes_pos
  have hlf : t.lf ≤ t.nodes := by
    rw [← ad_len]
    exact List.length_filter_le _ _
  have lp := lf_pos t
  have env : ∀ H', KeepB tp g H H' → LawEnv K H' C a v Pl Lv t := fun H' k => (le.same (mem_keep k)).same (mem_same tp g H')
  have lenP : ∀ H', KeepB tp g H H' → ∃ xs, H' Pl = some (.lst xs) ∧ [V.ref tp, V.int (xs.length : Nat)] = [V.ref tp, V.int (t.nodes : Nat)] := fun H' k => by
    obtain ⟨xs, h1, h2⟩ := (env H' k).pl
    have := Paired.len h2
    rw [ad_len] at this
    exact ⟨xs, h1, by rw [this]⟩
  have lenL : ∀ H', KeepB tp g H H' → ∃ xs, H' Lv = some (.lst xs) ∧ [V.ref tp, V.int (xs.length : Nat)] = [V.ref tp, V.int (t.lf : Nat)] := fun H' k => by
    obtain ⟨xs, h1, h2⟩ := (env H' k).lf
    have : xs.length = t.lf := Paired.len h2
    exact ⟨xs, h1, by rw [this]⟩
  refine ⟨_, rfl, tp, g, 12, rfl, hT, by decide, by decide, fun H1 way hw hT1 hB1 => ?_⟩
  have k1 := (KeepB.refl tp g H).but hB1
  refine ⟨_, rfl, _, _, rfl, rfl, _, rfl, ?_⟩
  refine ite2 (fun c7 => ?_) (fun c7 => ?_)
  · have c7' : ((way : Nat) : Int) < 7 := of_decide_eq_true c7
    refine ⟨1, rfl, (by show 3 ≤ sizeLine; decide), fun td htd => ?_⟩
    have s2 : Same H1 (upd H1 td (.tup [.str "refused", .str "node", .int (-1)])) := same_new htd
    have h2 : (upd H1 td (.tup [.str "refused", .str "node", .int (-1)])) td = some (.tup [.str "refused", .str "node", .int (-1)]) := upd_same
    have ntd := hT1.ne htd
    have k2 := k1.same s2
    have hT2 := hT1.same s2
    revert h2 k2 hT2
    generalize upd H1 td (.tup [.str "refused", .str "node", .int (-1)]) = H2
    intro h2 k2 hT2
    obtain ⟨xs, hP, hlen⟩ := lenP H2 k2
    refine ⟨_, rfl, _, rfl, _, rfl, _, rfl, Pl, xs, rfl, .inl (SqL.of hP), tp, g, t.nodes, hlen, hT2, by omega, by omega, fun H3 x o hT3 kB3 hx hbad => ?_⟩
    have k3 := k2.trans kB3
    have h3 := kB3 td _ h2 ntd.1 ntd.2
    refine ⟨_, rfl, a, way, x, .int 0, b, o, some 0, t, rfl, (env H3 k3).tr, NumV.same (mem_same tp g H3) hx, rfl, by omega, fun _ => ⟨fun v2 hv2 => absurd (show badO t o way by unfold badO; rw [if_pos (by omega)]; exact hbad) (ans_below hv2), fun _ => ?_⟩, fun h9 => absurd h9 (by omega)⟩
    rw [show wordO way = "node" from if_pos (by omega)]
    intro r H4 sm4 hr4
    exact ⟨_, rfl, .ref r, .ref td, .tuple [.str "refused", .str "node", .int (-1)], rfl, dp_ref hr4, dp_ref (sm4 _ _ h3), plain_ref (n := 14), fun H5 sm5 => q H5 ((hT3.same sm4).same sm5) ((k3.same sm4).same sm5)⟩
  have c7' : ¬ ((way : Nat) : Int) < 7 := fun z => c7 (decide_eq_true z)
  refine ⟨_, rfl, _, _, rfl, rfl, _, rfl, ?_⟩
  refine ite2 (fun c9 => ?_) (fun c9 => ?_)
  · have c9' : ((way : Nat) : Int) < 9 := of_decide_eq_true c9
    refine ⟨1, rfl, (by show 3 ≤ sizeLine; decide), fun td htd => ?_⟩
    have s2 : Same H1 (upd H1 td (.tup [.str "refused", .str "queue", .int (-1)])) := same_new htd
    have h2 : (upd H1 td (.tup [.str "refused", .str "queue", .int (-1)])) td = some (.tup [.str "refused", .str "queue", .int (-1)]) := upd_same
    have ntd := hT1.ne htd
    have k2 := k1.same s2
    have hT2 := hT1.same s2
    revert h2 k2 hT2
    generalize upd H1 td (.tup [.str "refused", .str "queue", .int (-1)]) = H2
    intro h2 k2 hT2
    obtain ⟨xs, hP, hlen⟩ := lenL H2 k2
    refine ⟨_, rfl, _, rfl, _, rfl, _, rfl, Lv, xs, rfl, .inl (SqL.of hP), tp, g, t.lf, hlen, hT2, by omega, by omega, fun H3 x o hT3 kB3 hx hbad => ?_⟩
    have k3 := k2.trans kB3
    have h3 := kB3 td _ h2 ntd.1 ntd.2
    refine ⟨_, rfl, a, way, x, .int 0, b, o, some 0, t, rfl, (env H3 k3).tr, NumV.same (mem_same tp g H3) hx, rfl, by omega, fun _ => ⟨fun v2 hv2 => absurd (show badO t o way by unfold badO; rw [if_neg (by omega)]; exact hbad) (ans_below hv2), fun _ => ?_⟩, fun h9 => absurd h9 (by omega)⟩
    rw [show wordO way = "queue" from if_neg (by omega)]
    intro r H4 sm4 hr4
    exact ⟨_, rfl, .ref r, .ref td, .tuple [.str "refused", .str "queue", .int (-1)], rfl, dp_ref hr4, dp_ref (sm4 _ _ h3), plain_ref (n := 14), fun H5 sm5 => q H5 ((hT3.same sm4).same sm5) ((k3.same sm4).same sm5)⟩
  have c9' : ¬ ((way : Nat) : Int) < 9 := fun z => c9 (decide_eq_true z)
  obtain ⟨fa, fb⟩ := firsts_at (way := way) (by omega) hw
  obtain ⟨xs, hP, hlen⟩ := lenP H1 k1
  refine ⟨_, rfl, _, rfl, Pl, xs, rfl, .inl (SqL.of hP), tp, g, t.nodes, hlen, hT1, by omega, by omega, fun H2 x o hT2 kB2 hx hbad => ?_⟩
  have k2 := k1.trans kB2
  obtain ⟨xs2, hP2, hlen2⟩ := lenP H2 k2
  refine ⟨_, rfl, _, rfl, Pl, xs2, rfl, .inl (SqL.of hP2), tp, g, t.nodes, hlen2, hT2, by omega, by omega, fun H3 gd hgd hT3 hB3 => ?_⟩
  have k3 := k2.but hB3
  have hx3 : NumV K (mem tp g H3) x o := NumV.same (mem_keep ((KeepB.refl tp g H2).but hB3)) hx
  have hgb : belowB (t.nodes : Nat) (some ((gd : Nat) : Int)) = true := by
    show (decide ((0 : Int) ≤ (gd : Nat)) && decide (((gd : Nat) : Int) < (t.nodes : Nat))) = true
    rw [Bool.and_eq_true]
    exact ⟨decide_eq_true (by omega), decide_eq_true (by omega)⟩
  have contra : ∀ p, o = some ((t.idx p : Nat) : Int) → p ∈ ad t → False := fun p e hp => by
    rw [e, ad_below hp] at hbad
    exact nomatch hbad
  -- firsts, seconds
  refine ⟨(by show 3 ≤ sizeLine; decide), fun l1 hl1 => ⟨(by show 3 ≤ sizeLine; decide), fun l2 hl2 => ?_⟩⟩
  have s4 : Same H3 (upd H3 l1 (.lst [.str "one", .str "node", .str "node"])) := same_new hl1
  have s5 : Same (upd H3 l1 (.lst [.str "one", .str "node", .str "node"])) (upd (upd H3 l1 (.lst [.str "one", .str "node", .str "node"])) l2 (.lst [.str "other", .str "top", .str "down"])) := same_new hl2
  have e1 := s5 _ _ (show (upd H3 l1 (.lst [.str "one", .str "node", .str "node"])) l1 = some (.lst [.str "one", .str "node", .str "node"]) from upd_same)
  have e2 : (upd (upd H3 l1 (.lst [.str "one", .str "node", .str "node"])) l2 (.lst [.str "other", .str "top", .str "down"])) l2 = some (.lst [.str "other", .str "top", .str "down"]) := upd_same
  have m1 := hT3.ne hl1
  have m2 := hT3.ne (s4.free hl2)
  have sS := s4.trans s5
  have k4 := k3.same sS
  have hT4 := hT3.same sS
  have hx4 := NumV.same (mem_keep ((KeepB.refl tp g H3).same sS)) hx3
  revert e1 e2 k4 hT4 hx4
  generalize upd (upd H3 l1 (.lst [.str "one", .str "node", .str "node"])) l2 (.lst [.str "other", .str "top", .str "down"]) = H4
  intro e1 e2 k4 hT4 hx4
  refine ⟨_, rfl, tp, g, 2, rfl, hT4, by decide, by decide, fun H5 z hz hT5 hB5 => ⟨rfl, _, rfl, ?_⟩⟩
  have k5 := k4.but hB5
  have hx5 := NumV.same (mem_keep ((KeepB.refl tp g H4).but hB5)) hx4
  have e15 : H5 l1 = _ := (hB5 l1 m1.1 m1.2).trans e1
  have e25 : H5 l2 = _ := (hB5 l2 m2.1 m2.2).trans e2
  refine ite2 (fun _ => ?_) (fun _ => ?_)
  · obtain ⟨xs5, hP5, hlen5⟩ := lenP H5 k5
    refine ⟨_, rfl, _, rfl, _, rfl, Pl, xs5, rfl, .inl (SqL.of hP5), tp, g, t.nodes, hlen5, hT5, by omega, by omega, fun H6 x2 o2 hT6 kB6 hx6 hbad2 => ⟨(by show 2 ≤ sizeLine; decide), fun l3 hl3 => ?_⟩⟩
    have k6 := k5.trans kB6
    have s7 : Same H6 (upd H6 l3 (.lst [.int (gd : Nat), x2])) := same_new hl3
    have m3 := hT6.ne hl3
    refine ⟨_, rfl, tp, g, 2, rfl, hT6.same s7, by decide, by decide, fun H8 w2 hw2 hT8 hB8 => ?_⟩
    have k68 : KeepB tp g H6 H8 := ((KeepB.refl tp g H6).same s7).but hB8
    have k8 := k6.trans k68
    have e8 : H8 l3 = some (.lst [.int (gd : Nat), x2]) := (hB8 l3 m3.1 m3.2).trans upd_same
    obtain ⟨m, o', hm, hmN⟩ : ∃ m o', ([V.int (gd : Nat), x2] : List V)[w2]? = some m ∧ NumV K (mem tp g H8) m o' := by
      have : w2 = 0 ∨ w2 = 1 := by omega
      rcases this with rfl | rfl
      · exact ⟨_, some (gd : Nat), rfl, rfl⟩
      · exact ⟨_, o2, rfl, NumV.same (mem_keep k68) hx6⟩
    refine ⟨l3, _, _, _, rfl, rfl, SqL.of e8, atI_nat hm, ?_⟩
    refine ⟨_, rfl, _, rfl, _, rfl, _, rfl, _, rfl, a, way, x, m, b, o, o', t, rfl, (env H8 k8).tr, NumV.same (mem_same tp g H8) (NumV.same (mem_keep (kB6.trans k68)) hx5), NumV.same (mem_same tp g H8) hmN, hw, fun h9 => absurd h9 (by omega), fun _ => ⟨fun _ => ?_, fun y => absurd (hbad.symm.trans y) (by decide), fun p q2 z1 z2 y1 y2 => (contra p z1 y1).elim⟩⟩
    have e18 := k68 l1 _ (kB6 l1 _ e15 m1.1 m1.2) m1.1 m1.2
    intro r H9 sm9 hr9
    refine ⟨_, rfl, _, rfl, _, _, rfl, rfl, l1, _, _, _, rfl, rfl, SqL.of (sm9 _ _ e18), fa, 1, rfl, (by show 3 ≤ sizeLine; decide), fun td htd => ?_⟩
    have s10 : Same H9 (upd H9 td (.tup [.str "refused", .str (word1 (way - 9)), .int (-1)])) := same_new htd
    exact ⟨.ref r, .ref td, .tuple [.str "refused", .str (word1 (way - 9)), .int (-1)], rfl, dp_ref (s10 _ _ hr9), dp_ref upd_same, plain_ref (n := 14), fun H11 sm11 => q H11 (((hT8.same sm9).same s10).same sm11) (((k8.same sm9).same s10).same sm11)⟩
  · refine ⟨_, rfl, _, rfl, _, rfl, _, rfl, _, rfl, a, way, .int (gd : Nat), x, b, some (gd : Nat), o, t, rfl, (env H5 k5).tr, rfl, NumV.same (mem_same tp g H5) hx5, hw, fun h9 => absurd h9 (by omega), fun _ => ⟨fun y => absurd (hgb.symm.trans y) (by decide), fun _ _ => ?_, fun p q2 z1 z2 y1 y2 => (contra q2 z2 y2).elim⟩⟩
    intro r H9 sm9 hr9
    refine ⟨_, rfl, _, rfl, _, _, rfl, rfl, l2, _, _, _, rfl, rfl, SqL.of (sm9 _ _ e25), fb, 1, rfl, (by show 3 ≤ sizeLine; decide), fun td htd => ?_⟩
    have s10 : Same H9 (upd H9 td (.tup [.str "refused", .str (word2 (way - 9)), .int (-1)])) := same_new htd
    exact ⟨.ref r, .ref td, .tuple [.str "refused", .str (word2 (way - 9)), .int (-1)], rfl, dp_ref (s10 _ _ hr9), dp_ref upd_same, plain_ref (n := 14), fun H11 sm11 => q H11 (((hT5.same sm9).same s10).same sm11) (((k5.same sm9).same s10).same sm11)⟩
end
end K19

set_option Elab.async false
set_option linter.all false
set_option maxRecDepth 100000
set_option maxHeartbeats 8000000
namespace K19
open PySem PySem.Spec PyProof.Rows L2 Dt
theorem mem_keepT {tp g : Addr} {H : Hp} (t : Tape H tp g) : KeepT H (mem tp g H) := fun y xs => by
  obtain ⟨_, gs, i, h1, h2, _⟩ := t
  refine ⟨fun h => mem_at h (fun z => by rw [z, h1] at h; exact HO.noConfusion (Option.some.inj h)) (fun z => by rw [z, h2] at h; exact HO.noConfusion (Option.some.inj h)), fun o h => mem_at h (fun z => by rw [z, h1] at h; exact HO.noConfusion (Option.some.inj h)) (fun z => by rw [z, h2] at h; exact HO.noConfusion (Option.some.inj h))⟩
theorem passE {X : Cx} : Passes (L2.CX X.prog X.w) X (fun _ _ _ => False) := fun _ _ _ _ _ _ _ c => by
  obtain ⟨_, _, _, _, _, _, _, _, _, _, _, _, h⟩ := c
  exact h.elim
/-- form_of as a method -/
structure FQ (P : Program) (w : World) (K : PySem.W.Frag) (mg : Str → Option Value) (base : Heap) (C : Addr) : Prop where
  ex : ∃ f fd, Meth K C "form_of" f ∧ FnOk P w K mg base CX0 1 f fd ["self"] (spForm K C) ∧ Binds K fd ["self"] []
theorem pe_form {X : Cx} {j : Nat} {C : Addr} {pos apos : Pos} {o : Expr} {ta : TE} {pl : Sem Bool} (he : PE X o ta) (c : Cls X.K C) (M : FQ X.prog X.w X.K X.mg X.base C) (hr : Room j X.A) (hk : 1 ≤ j)
    (ht : eval (.Call (.Attribute o "form_of" apos) [] [] pos) X.env = (do
      let ov ← eval o X.env
      standAt apos.atName
      let (f, first) ← holding [ov] (getMethod ov "form_of" pl)
      callWith pos f first (backTo pos (starEach [] X.env)) (backToKw pos (keywordEach [] X.env))) := by rfl) :
    PE X (.Call (.Attribute o "form_of" apos) [] [] pos) (tMeth C "form_of" (spForm X.K C) [] E0 ta tNil) := by
  obtain ⟨f, fd, hm, F, b⟩ := M.ex
  exact pe_meth0 he c hm F (hr.mono hk) b .nil pass0 ht
/-- what stands around in the frame of _law_tree_right -/
abbrev stR (tp a : Addr) (v : V) (b : Bool) (Pl Lv : Addr) (n : Nat) (sl : V) (o8 o9 o10 o11 o12 : Option V) : L2.St := [some (.ref tp), some (.ref a), some v, some (.bl b), some (.ref Pl), some (.ref Lv), some (.int (n : Nat)), some sl, o8, o9, o10, o11, o12]
/-- the numbers that are tried -/
def Spots (H : Hp) (tp g l : Addr) (n : Nat) : Prop := ∃ ns : List Nat, H l = some (.lst (ns.map fun i => V.int (i : Nat))) ∧ (∀ i ∈ ns, i < n) ∧ l ≠ tp ∧ l ≠ g
def tSpots (tp g a : Addr) (v : V) (b : Bool) : TS := fun D σ H => ∃ (Pl Lv : Addr) (n : Nat) (l : Addr), σ = stR tp a v b Pl Lv n (.ref l) none none none none none ∧ Tape H tp g ∧ Spots H tp g l n ∧ 1 ≤ n ∧ n ≤ 64 ∧
  ∀ H' l' o8, Tape H' tp g → KeepB tp g H H' → Spots H' tp g l' n → D.nx (stR tp a v b Pl Lv n (.ref l') o8 none none none none) H'
def tSwap (K : PySem.W.Frag) (tp g a : Addr) (v : V) (b : Bool) : TS := fun D σ H => ∃ (Pl Lv : Addr) (n : Nat) (sl : V) (o8 o9 : Option V) (tn : Int) (i j : Nat) (xs : List V) (T : Dt) (p : Ad), o8 = some (.int tn) ∧ σ = stR tp a v b Pl Lv n sl o8 o9 (some (.int (i : Nat))) (some (.int (j : Nat))) (some (.int (p.length : Nat))) ∧ Tape H tp g ∧
  H Pl = some (.lst xs) ∧ Pl ≠ tp ∧ Pl ≠ g ∧ Paired (PlV K H) xs (ad T) ∧ (ad T)[i]? = some p ∧ i < n ∧ j < n ∧ n = T.nodes ∧ T.nodes ≤ 1000 ∧
  ∀ H' i' j', Tape H' tp g → KeepB tp g H H' → i' < n → j' < n → D.nx (stR tp a v b Pl Lv n sl o8 o9 (some (.int (i' : Nat))) (some (.int (j' : Nat))) (some (.int (p.length : Nat)))) H'
def tSquare (K : PySem.W.Frag) (C tp a : Addr) (v : V) (b : Bool) : TS := fun D σ H => ∃ (Pl Lv : Addr) (T : Dt) (sl : V) (o8 o9 o10 o11 o12 : Option V), σ = stR tp a v b Pl Lv T.nodes sl o8 o9 o10 o11 o12 ∧ LawEnv K H C a v Pl Lv T ∧
  ∀ H' p10 p11, Same H H' → D.nx (stR tp a v b Pl Lv T.nodes sl o8 o9 p10 p11 o12) H'
def spTreeRight (K : PySem.W.Frag) (C : Addr) : Sp := fun vs H Q _ => ∃ (tp g a : Addr) (v : V) (T : Dt) (b : Bool), vs = [.ref tp, .ref a, v, .bl b] ∧ Tape H tp g ∧ Tree K (mem tp g H) C a T ∧ ShV K (mem tp g H) v T ∧ T.ht ≤ 12 ∧ T.nodes ≤ 64 ∧ ∀ H', Tape H' tp g → KeepB tp g H H' → Q (.bl true) H'
section
variable {P : Program} {w : World} {K : PySem.W.Frag} {mg : Str → Option Value} {base : Heap} {C U fG : Addr}
theorem ok_tree_right (D : DefAt K mg "_law_tree_right" s_law_tree_right ["tape", "tree", "shape", "named"]) (T : Txt K mg) (TC : TCl K mg C fG) (FM : FQ P w K mg base C) (GP : CalX P w K mg base CX0 1 "_law_pick" ["tape", "span"] spPick)
    (GA : CalX P w K mg base CX0 13 "_law_places" ["shape"] (spPlaces K 13)) (GL : CalX P w K mg base CX0 1 "_law_leaves" ["places"] (spLeaves K)) (GS : CalX P w K mg base CX0 16 "_law_same" ["mine", "due"] (spSame K 16))
    (GN : CalX P w K mg base CX0 17 "_law_node_right" ["tree", "shape", "places", "leaves", "spot", "named"] (spNodeRight K C)) (GQ : CalX P w K mg base CX0 17 "_law_queue_right" ["tree", "places", "leaves", "spot", "named"] (spQueueRight K C))
    (GR : CalX P w K mg base CX0 17 "_law_pair_right" ["tree", "places", "first", "second", "named"] (spPairRight K C)) (GF : CalX P w K mg base CX0 17 "_law_refuses" ["tape", "tree", "places", "leaves", "named"] (spRefuses K C)) :
    CalX P w K mg base CX0 18 "_law_tree_right" ["tape", "tree", "shape", "named"] (spTreeRight K C) := by
  refine D.ok sc_law_tree_right (fun vs H Q E h => ?_) (fun f cdv A outer s H vs Q E hr h => ?_)
  · obtain ⟨tp, g, a, v, t, b, rfl, _⟩ := h
    rfl
  obtain ⟨tp, g, a, v, t, b, rfl, hT, hTr, hv, h12, hn, q⟩ := h
  refine ⟨_, pss_cons (ps_set (i := 4) sc_law_tree_right.nd rfl (.inl rfl) (pe_c0 GA hr (by decide) rfl (pa_cons (pv 2) pa_nil)))
    (pss_cons (ps_set (i := 5) sc_law_tree_right.nd rfl (.inl rfl) (pe_c0 GL hr (by decide) rfl (pa_cons (pv 4) pa_nil)))
    (pss_cons (ps_set (i := 6) sc_law_tree_right.nd rfl (.inr rfl) (pe_callB call_len_seq (by rfl) T.len PySem.boot_len (pa_cons (pv 4) pa_nil)))
    (pss_cons (ps_if (pt_not (pt_val (pe_c0 GS hr (by decide) rfl (pa_cons (pe_form (pv 1) TC.cl FM hr (by decide)) (pa_cons (pv 2) pa_nil))))) (pss_one (ps_ret pe_bl)) pss_nil)
    (pss_cons (ps_set (i := 7) sc_law_tree_right.nd rfl (.inl rfl) (pe_listRg rfl rfl T.list (prg_1 rfl T.range (pv 6))))
    (pss_cons (ps_conv (t' := tSpots tp g a v b) (ps_if (pt_cmpR op_gt (pv 6) pe_int (nomark _))
      (pss_one (ps_setLc (i := 7) (own := [("turn", 8)]) (g := gName 8) (tt := tYes) (by rfl) sc_law_tree_right.nd rfl rfl (sw_true rfl rfl rfl (by decide +kernel)) (pi_range1 rfl T.range (pa_cons pe_int pa_nil))
        (blkOk_by (own := [("turn", 8)]) (N := N_law_tree_right) (sc := defScope s_law_tree_right) (by decide +kernel)) (fun _ _ _ _ _ => pg_name (i := 8) sc_law_tree_right.nd rfl (Or.inl rfl)) (fun _ _ _ _ _ => pts_nil)
        (fun _ _ _ _ _ => by exact (pe_c0 GP hr (by decide) rfl (pa_cons (pv 0) (pa_cons (pv 6) pa_nil)))))) pss_nil) (by
        rintro D σ Hc ⟨Pl, Lv, n, l, rfl, hTc, ⟨ns, hl, hb, l1, l2⟩, hn1, hn2, nx⟩
        refine ⟨_, rfl, _, _, rfl, rfl, _, rfl, ?_⟩
        refine ite2 (fun _ => ?_) (fun _ => nx Hc l none hTc (KeepB.refl tp g Hc) ⟨ns, hl, hb, l1, l2⟩)
        refine ⟨25, rfl, by decide, by decide, fun Dl hDl => lc_range (lo := 0) (n := 25) (fun i H' => Tape H' tp g ∧ KeepB tp g Hc H' ∧ Dl ≠ tp ∧ Dl ≠ g ∧ ∃ ms : List Nat, H' Dl = some (.lst (ms.map fun i => V.int (i : Nat))) ∧ (∀ j ∈ ms, j < n) ∧ ms.length = i)
          ⟨hTc.same (same_new hDl), (KeepB.refl tp g Hc).same (same_new hDl), (hTc.ne hDl).1, (hTc.ne hDl).2, [], upd_same, (fun j h => by simp at h), rfl⟩ ?_ ?_⟩
        · rintro i H' hi ⟨hT', kB', d1, d2, ms, hD, hms, hml⟩
          refine ⟨rfl, ?_⟩
          refine ⟨_, rfl, _, rfl, tp, g, n, rfl, hT', by omega, by omega, fun H2 r hr2 hT2 hB2 => ?_⟩
          have hD2 : H2 Dl = _ := (hB2 Dl d1 d2).trans hD
          have nD : ∀ y o, Hc y = some o → y ≠ Dl := fun y o h z => by rw [z, hDl] at h; exact nomatch h
          refine ⟨_, hD2, small1000 (by rw [List.length_map]; omega), ?_, fun y o h h1 h2 => ?_, d1, d2, ms ++ [r], ?_, fun j hj => ?_, by rw [List.length_append, hml]; rfl⟩
          · obtain ⟨x1, gs, x2, x3, x4, x5⟩ := hT2
            exact ⟨x1, gs, x2, by rw [upd_ne (Ne.symm d1)]; exact x3, by rw [upd_ne (Ne.symm d2)]; exact x4, x5⟩
          · rw [upd_ne (nD y o h), hB2 y h1 h2]
            exact kB' y o h h1 h2
          · rw [upd_same, List.map_append]
            rfl
          · rcases List.mem_append.mp hj with hj | hj
            · exact hms j hj
            · obtain rfl : j = r := by simpa using hj
              exact hr2
        · rintro H' ⟨hT', kB', d1, d2, ms, hD, hms, _⟩
          exact nx H' Dl none hT' kB' ⟨ms, hD, hms, d1, d2⟩))
    (pss_cons (ps_for PassesOwn.never rfl (pi_list (pv 7)) (pg_name (i := 9) sc_law_tree_right.nd rfl (Or.inl rfl)) (pss_one (ps_if (pt_not (pt_val (pe_c0 GN hr (by decide) rfl (pa_cons (pv 1) (pa_cons (pv 2) (pa_cons (pv 4) (pa_cons (pv 5) (pa_cons (pv 9) (pa_cons (pv 3) pa_nil))))))))) (pss_one (ps_ret pe_bl)) pss_nil)))
    (pss_cons (ps_for PassesOwn.never rfl (pi_range1 rfl T.range (pa_cons (pe_callB call_len_seq (by rfl) T.len PySem.boot_len (pa_cons (pv 5) pa_nil)) pa_nil)) (pg_name (i := 9) sc_law_tree_right.nd rfl (Or.inl rfl)) (pss_one (ps_if (pt_not (pt_val (pe_c0 GQ hr (by decide) rfl (pa_cons (pv 1) (pa_cons (pv 4) (pa_cons (pv 5) (pa_cons (pv 9) (pa_cons (pv 3) pa_nil)))))))) (pss_one (ps_ret pe_bl)) pss_nil)))
    (pss_cons (ps_for PassesOwn.never rfl (pi_range1 rfl T.range (pa_cons pe_int pa_nil)) (pg_name (i := 8) sc_law_tree_right.nd rfl (Or.inl rfl)) (pss_cons (ps_set (i := 10) sc_law_tree_right.nd rfl (.inl rfl) (pe_c0 GP hr (by decide) rfl (pa_cons (pv 0) (pa_cons (pv 6) pa_nil))))
      (pss_cons (ps_set (i := 11) sc_law_tree_right.nd rfl (.inl rfl) (pe_c0 GP hr (by decide) rfl (pa_cons (pv 0) (pa_cons (pv 6) pa_nil))))
      (pss_cons (ps_set (i := 12) sc_law_tree_right.nd rfl (.inl rfl) (pe_callB call_len_seq (by rfl) T.len PySem.boot_len (pa_cons (pe_ix ix_list (pv 4) (pv 10) (fun _ _ => rfl)) pa_nil)))
      (pss_cons (ps_conv (t' := tSwap K tp g a v b) (ps_if (PW.pt (pw_and (pt_cmpR op_eq (pe_op op_mod (pv 8) pe_int) pe_int (nomark _)) (pw_and1 (pt_cmpR op_gt (pv 12) pe_int (nomark _)))))
        (pss_cons (ps_set (i := 11) sc_law_tree_right.nd rfl (.inl rfl) (pv 10))
        (pss_one (ps_set (i := 10) sc_law_tree_right.nd rfl (.inl rfl) (pe_bm PySem.F.plainAttrs_list PySem.F.slot_list_index PySem.F.type_list_index (mt_indexD (un65 hr)) (pv 4) (pa_cons (pe_slice sl_tupA (pe_ix ix_list (pv 4) (pv 11) (fun _ _ => rfl)) po_none (po_some (pe_c0 GP hr (by decide) rfl (pa_cons (pv 0) (pa_cons (pv 12) pa_nil))))) pa_nil))))) pss_nil) (by
          rintro D σ Hc ⟨Pl, Lv, n, sl, o8, o9, tn, i, j, xs, t', p, rfl, rfl, hTc, hP, hP1, hP2, hx, hi, hin, hjn, hnn, ht1000, nx⟩
          have same := nx Hc i j hTc (KeepB.refl tp g Hc) hin hjn
          refine ⟨_, rfl, _, _, rfl, rfl, (show (0 : Int) < 2 by decide), rfl, _, rfl, ?_⟩
          refine ite2 (fun _ => ?_) (fun _ => iteF same)
          refine ⟨_, rfl, _, _, rfl, rfl, _, rfl, ?_⟩
          refine ite2 (fun c => ?_) (fun _ => same)
          have c' : ((p.length : Nat) : Int) > 0 := of_decide_eq_true c
          have hpm : p ∈ ad t' := List.mem_of_getElem? hi
          have hpl : p.length ≤ 1000 := by
            obtain ⟨u, hu⟩ := ad_sub hpm
            have := len_idx t' p u hu
            have := idx_lt hu
            omega
          obtain ⟨vp, e1, bp, rfl, hb⟩ := Paired.at hx hi
          refine ⟨_, rfl, ?_⟩
          refine ⟨_, rfl, .inl ⟨rfl, _, SqL.of hP⟩, _, rfl, _, rfl, Pl, _, _, _, rfl, rfl, SqL.of hP, atI_nat e1, _, rfl, _, rfl, tp, g, p.length, rfl, hTc, by omega, hpl, fun H2 r hr2 hT2 hB2 => ⟨_, rfl, ?_⟩⟩
          have k2 := (KeepB.refl tp g Hc).but hB2
          have kt2 : KeepT Hc H2 := (mem_keepT hTc).trans (KeepT.of_same ((mem_keep k2).trans (mem_same tp g H2)))
          have hP2' : H2 Pl = some (.lst xs) := k2 _ _ hP hP1 hP2
          refine rSlA_all (kt_sqt kt2 hb) fun tq H3 sm3 htq => ?_
          rw [cut_take, adV_take] at htq
          dsimp only [L2.tNil]
          have hx3 : Paired (PlV K H3) xs (ad t') := Paired.mono (fun v q c => c.keep (kt2.trans (KeepT.of_same sm3))) hx
          refine index_read (SqL.of (sm3 _ _ hP2')) hx3 ⟨tq, rfl, htq⟩ (take_ad hpm r) ?_
          have hil : t'.idx (p.take r) < n := by
            obtain ⟨u, hu⟩ := ad_sub (take_ad hpm r)
            have := idx_lt hu
            have := u.nodes_pos
            omega
          exact nx H3 (t'.idx (p.take r)) i (hT2.same sm3) (k2.same sm3) hil hin))
      (pss_cons (ps_if (pt_not (pt_val (pe_c0 GR hr (by decide) rfl (pa_cons (pv 1) (pa_cons (pv 4) (pa_cons (pv 10) (pa_cons (pv 11) (pa_cons (pe_cmpR op_eq (pe_op op_mod (pv 8) pe_int) pe_int (nomark _)) pa_nil)))))))) (pss_one (ps_ret pe_bl)) pss_nil)
      (pss_one (ps_if (pt_not (pt_val (pe_c0 GF hr (by decide) rfl (pa_cons (pv 0) (pa_cons (pv 1) (pa_cons (pv 4) (pa_cons (pv 5) (pa_cons (pe_cmpR op_gt (pe_op op_mod (pv 8) pe_int) pe_int (nomark _)) pa_nil)))))))) (pss_one (ps_ret pe_bl)) pss_nil))))))))
    (pss_cons (ps_conv (t' := tSquare K C tp a v b) (ps_if (pt_cmpR op_lt (pv 6) pe_int (nomark _)) (pss_one (ps_for PassesOwn.never rfl (pi_range1 rfl T.range (pa_cons (pv 6) pa_nil)) (pg_name (i := 10) sc_law_tree_right.nd rfl (Or.inl rfl))
      (pss_one (ps_for PassesOwn.never rfl (pi_range1 rfl T.range (pa_cons (pv 6) pa_nil)) (pg_name (i := 11) sc_law_tree_right.nd rfl (Or.inl rfl)) (pss_one (ps_if (pt_not (pt_val (pe_c0 GR hr (by decide) rfl (pa_cons (pv 1) (pa_cons (pv 4) (pa_cons (pv 10) (pa_cons (pv 11) (pa_cons (pv 3) pa_nil)))))))) (pss_one (ps_ret pe_bl)) pss_nil)))))) pss_nil) (by
        rintro D σ Hc ⟨Pl, Lv, t', sl, o8, o9, o10, o11, o12, rfl, le, nx⟩
        have n1 := le.n1
        refine ⟨_, rfl, _, _, rfl, rfl, _, rfl, ?_⟩
        refine ite2 (fun _ => ?_) (fun _ => nx Hc o10 o11 (fun _ _ z => z))
        refine ⟨_, rfl, ?_⟩
        refine ⟨_, rfl, by omega, by omega, for_range (lo := 0) (n := t'.nodes) (fun i σ H' => ∃ p10 p11, σ = stR tp a v b Pl Lv t'.nodes sl o8 o9 p10 p11 o12 ∧ Same Hc H') ⟨o10, o11, rfl, fun _ _ z => z⟩ ?_ (fun σ H' ⟨p10, p11, e, sm⟩ => by rw [e]; exact nx H' p10 p11 sm)⟩
        rintro i σ H' hi ⟨p10, p11, rfl, sm⟩
        refine ⟨_, rfl, _, rfl, by omega, by omega, for_range (lo := 0) (n := t'.nodes) (fun j σ H2 => ∃ p11', σ = stR tp a v b Pl Lv t'.nodes sl o8 o9 (some (.int (0 + (i : Nat)))) p11' o12 ∧ Same Hc H2) ⟨p11, rfl, sm⟩ ?_ (fun σ H2 ⟨p11', e, sm2⟩ => ⟨_, _, e, sm2⟩)⟩
        rintro j σ H2 hj ⟨p11', rfl, sm2⟩
        refine ⟨_, rfl, _, rfl, _, rfl, _, rfl, _, rfl, a, Pl, Lv, v, t', i, j, b, ?_, le.same sm2, hi, hj, fun H3 sm3 => ?_⟩
        · show [V.ref a, V.ref Pl, V.int (0 + (i : Nat)), V.int (0 + (j : Nat)), V.bl b] = _
          rw [Int.zero_add, Int.zero_add]
        refine ⟨_, rfl, ?_⟩
        refine iteF ?_
        exact ⟨_, rfl, sm2.trans sm3⟩))
    (pss_cons (ps_set (i := 9) sc_law_tree_right.nd rfl (.inl rfl) (pe_c0 GP hr (by decide) rfl (pa_cons (pv 0) (pa_cons (pv 6) pa_nil))))
    (pss_one (ps_ret (pe_and (pe_c0 GN hr (by decide) rfl (pa_cons (pv 1) (pa_cons (pv 2) (pa_cons (pv 4) (pa_cons (pv 5) (pa_cons (pv 9) (pa_cons (pe_not (pv 3)) pa_nil))))))) (pe_one (pe_c0 GS hr (by decide) rfl (pa_cons (pe_form (pv 1) TC.cl FM hr (by decide)) (pa_cons (pv 2) pa_nil))))))))))))))))), ?_⟩
  have np := t.nodes_pos
  have hvH := hv.keep (KeepT.of_same (mem_same tp g H))
  -- places, leaves, many
  refine ⟨_, rfl, v, t, rfl, hvH, by omega, by omega, fun H1 Pl xs sm1 hPl0 hP hx => ?_⟩
  refine ⟨_, rfl, Pl, xs, t, rfl, hP, hx, by omega, fun H2 Lv ys sm2 hLv0 hL hy => ?_⟩
  have nP := hT.ne hPl0
  have hT1 := hT.same sm1
  have nL := hT1.ne hLv0
  have hT2 := hT1.same sm2
  have k02 : KeepB tp g H H2 := ((KeepB.refl tp g H).same sm1).same sm2
  have ktm := mem_keepT hT2
  have le : LawEnv K (mem tp g H2) C a v Pl Lv t := ⟨hTr.same (mem_keep k02), hv.keep (KeepT.of_same (mem_keep k02)), ⟨xs, mem_at (sm2 _ _ hP) nP.1 nP.2, Paired.mono (fun v q c => c.keep ((KeepT.of_same sm2).trans ktm)) hx⟩, ⟨ys, mem_at hL nL.1 nL.2, Paired.mono (fun v q c => c.keep ktm) hy⟩, h12, by omega⟩
  have env : ∀ H', KeepB tp g H2 H' → LawEnv K H' C a v Pl Lv t := fun H' k => (le.same (mem_keep k)).same (mem_same tp g H')
  have envM : ∀ H', KeepB tp g H2 H' → LawEnv K (mem tp g H') C a v Pl Lv t := fun H' k => le.same (mem_keep k)
  have hlen : xs.length = t.nodes := by rw [Paired.len hx, ad_len]
  have hlenL : ys.length = t.lf := Paired.len hy
  have hlfn : t.lf ≤ t.nodes := by
    rw [← ad_len]
    exact List.length_filter_le _ _
  have kr := KeepB.refl tp g H2
  refine ⟨_, rfl, Pl, _, rfl, .inl (SqL.of (sm2 _ _ hP)), ?_⟩
  rw [hlen]
  have formed : ∀ H', KeepB tp g H2 H' → ∃ dx fs, H' a = some (.ins C dx fs) ∧ fs.lookup ("form_of" : Str) = none ∧ Tree K H' C a t ∧ ShV K H' v t := fun H' k => by
    have l := env H' k
    obtain ⟨dx, fv, L, S, hTA, _⟩ := id l.tr
    exact ⟨dx, _, hTA.ob, rfl, l.tr, l.sv⟩
  have plainT := plain_shD (t := t) (n := 15) (by omega) (by omega)
  -- if not _law_same(tree.form_of(), shape)
  obtain ⟨dx, fs, ho, hlk, htr2, hsv2⟩ := formed H2 kr
  refine ⟨_, rfl, a, dx, fs, rfl, ho, hlk, a, t, rfl, htr2, fun v' hv' => ?_⟩
  refine ⟨_, rfl, v', v, shD t, rfl, hv'.dp, hsv2.dp, plainT, fun H3 sm3 => ?_⟩
  refine ⟨_, rfl, ?_⟩
  refine iteF ?_
  have k3 := kr.same sm3
  have hT3 := hT2.same sm3
  -- spots
  refine ⟨_, rfl, _, rfl, RgOk.of_le (by decide) (by omega) (by decide) (by omega), fun sp hsp => ?_⟩
  have erg : rgV 0 ((t.nodes : Nat) : Int) = (List.range t.nodes).map fun i => V.int (i : Nat) := by
    unfold rgV
    rw [show (((t.nodes : Nat) : Int) - 0).toNat = t.nodes by omega]
    exact List.map_congr_left fun i _ => by rw [Int.zero_add]
  rw [erg]
  have s4 : Same H3 (upd H3 sp (.lst ((List.range t.nodes).map fun i => V.int (i : Nat)))) := same_new hsp
  have nS := hT3.ne hsp
  refine ⟨Pl, Lv, t.nodes, sp, rfl, hT3.same s4, ⟨List.range t.nodes, upd_same, fun i hi => List.mem_range.mp hi, nS.1, nS.2⟩, np, hn, fun H5 l' o8 hT5 kB5 ⟨ns, hns, hbd, l1, l2⟩ => ?_⟩
  have k5 := (k3.same s4).trans kB5
  -- for spot in spots
  refine ⟨_, rfl, l', rfl, ⟨_, SqL.of hns⟩, for_list (K := K) (a := l') (xs := ns.map fun i => V.int (i : Nat)) (fun i σ H' => ∃ o9, σ = stR tp a v b Pl Lv t.nodes (.ref l') o8 o9 none none none ∧ Same H5 H') ⟨none, rfl, fun _ _ z => z⟩ (fun i σ H' _ ⟨_, _, sm⟩ => SqL.of (sm _ _ hns)) ?_ ?_⟩
  · rintro i x σ H' hi ⟨o9, rfl, sm⟩
    rw [List.getElem?_map] at hi
    obtain ⟨j, hj, rfl⟩ := Option.map_eq_some_iff.mp hi
    have hjn := hbd j (List.mem_of_getElem? hj)
    refine ⟨_, rfl, _, rfl, _, rfl, _, rfl, _, rfl, _, rfl, a, Pl, Lv, v, t, j, b, rfl, env H' (k5.same sm), hjn, fun H6 sm6 => ?_⟩
    refine ⟨_, rfl, ?_⟩
    refine iteF ?_
    exact ⟨_, rfl, sm.trans sm6⟩
  rintro σ H6 ⟨o9, rfl, sm6⟩
  have k6 := k5.same sm6
  have hT6 := hT5.same sm6
  -- for spot in range(len(leaves))
  have hL6 := k6 _ _ hL nL.1 nL.2
  refine ⟨_, rfl, Lv, _, rfl, .inl (SqL.of hL6), _, rfl, by omega, by omega, ?_⟩
  rw [hlenL]
  refine for_range (lo := 0) (n := t.lf) (fun i σ H' => ∃ o9, σ = stR tp a v b Pl Lv t.nodes (.ref l') o8 o9 none none none ∧ Same H6 H') ⟨o9, rfl, fun _ _ z => z⟩ ?_ ?_
  · rintro i σ H' hi ⟨o9', rfl, sm⟩
    refine ⟨_, rfl, _, rfl, _, rfl, _, rfl, _, rfl, a, Pl, Lv, v, t, i, b, congrArg (fun z => [V.ref a, V.ref Pl, V.ref Lv, V.int z, V.bl b]) (Int.zero_add _), env H' (k6.same sm), hi, fun H7 sm7 => ?_⟩
    refine ⟨_, rfl, ?_⟩
    refine iteF ?_
    exact ⟨_, rfl, sm.trans sm7⟩
  rintro σ H7 ⟨o9', rfl, sm7⟩
  have k7 := k6.same sm7
  have hT7 := hT6.same sm7
  -- for turn in range(12)
  refine ⟨12, rfl, by decide, by decide, for_range (lo := 0) (n := 12) (fun i σ H' => ∃ o8 o9 o10 o11 o12, σ = stR tp a v b Pl Lv t.nodes (.ref l') o8 o9 o10 o11 o12 ∧ Tape H' tp g ∧ KeepB tp g H2 H') ⟨o8, o9', none, none, none, rfl, hT7, k7⟩ ?_ ?_⟩
  · rintro i σ H' hi ⟨q8, q9, q10, q11, q12, rfl, hT', k'⟩
    refine ⟨_, rfl, _, rfl, tp, g, t.nodes, rfl, hT', by omega, by omega, fun Ha f1 hf1 hTa hBa => ?_⟩
    have ka := k'.but hBa
    refine ⟨_, rfl, _, rfl, tp, g, t.nodes, rfl, hTa, by omega, by omega, fun Hb s1 hs1 hTb hBb => ?_⟩
    have kb := ka.but hBb
    obtain ⟨xs', hPb, hxb⟩ := (env Hb kb).pl
    have hf1a : f1 < (ad t).length := by rw [ad_len]; exact hf1
    obtain ⟨vq, e1, bq, rfl, hbq⟩ := Paired.at hxb (List.getElem?_eq_getElem hf1a)
    refine ⟨_, rfl, _, rfl, Pl, _, _, _, rfl, rfl, SqL.of hPb, atI_nat e1, bq, _, rfl, .inr hbq, ?_⟩
    rw [adV_len]
    refine ⟨Pl, Lv, t.nodes, .ref l', some (.int (0 + (i : Nat))), q9, 0 + (i : Nat), f1, s1, xs', t, (ad t)[f1], rfl, rfl, hTb, hPb, nP.1, nP.2, hxb, List.getElem?_eq_getElem hf1a, hf1, hs1, rfl, by omega, fun Hc f2 s2 hTc kBc hf2 hs2 => ?_⟩
    have kc := kb.trans kBc
    refine ⟨_, rfl, _, rfl, _, rfl, _, rfl, _, rfl, _, _, rfl, rfl, (show (0 : Int) < 3 by decide), rfl, a, Pl, Lv, v, t, f2, s2, _, rfl, env Hc kc, hf2, hs2, fun Hd smd => ?_⟩
    refine ⟨_, rfl, ?_⟩
    refine iteF ?_
    have kd := kc.same smd
    have hTd := hTc.same smd
    refine ⟨_, rfl, _, rfl, _, rfl, _, rfl, _, rfl, _, _, rfl, rfl, (show (0 : Int) < 4 by decide), _, _, rfl, rfl, tp, g, a, Pl, Lv, v, t, _, rfl, hTd, envM Hd kd, fun He hTe kBe => ?_⟩
    refine ⟨_, rfl, ?_⟩
    refine iteF ?_
    exact ⟨_, _, _, _, _, rfl, hTe, kd.trans kBe⟩
  rintro σ H8 ⟨q8, q9, q10, q11, q12, rfl, hT8, k8⟩
  -- the end
  refine ⟨Pl, Lv, t, .ref l', q8, q9, q10, q11, q12, rfl, env H8 k8, fun H9 p10 p11 sm9 => ?_⟩
  have k9 := k8.same sm9
  have hT9 := hT8.same sm9
  refine ⟨_, rfl, _, rfl, tp, g, t.nodes, rfl, hT9, by omega, by omega, fun Ha z hz hTa hBa => ?_⟩
  have ka := k9.but hBa
  refine ⟨_, rfl, _, rfl, _, rfl, _, rfl, _, rfl, _, rfl, b, rfl, a, Pl, Lv, v, t, z, !b, rfl, env Ha ka, hz, fun Hb smb => ?_⟩
  refine ⟨_, rfl, ?_⟩
  refine iteT ?_
  have kb := ka.same smb
  obtain ⟨dx, fs, ho, hlk, htr3, hsv3⟩ := formed Hb kb
  refine ⟨_, rfl, a, dx, fs, rfl, ho, hlk, a, t, rfl, htr3, fun v' hv' => ?_⟩
  exact ⟨_, rfl, v', v, shD t, rfl, hv'.dp, hsv3.dp, plainT, fun Hc smc => q Hc ((hTa.same smb).same smc) (k02.trans (kb.same smc))⟩
end
end K19

set_option Elab.async false
set_option linter.all false
set_option maxRecDepth 100000
set_option maxHeartbeats 8000000
namespace K19
open PySem PySem.Spec PyProof.Rows L2 Dt
theorem size_nodes : ∀ t : Dt, t.size + 1 ≤ 2 * t.nodes
  | x => Nat.le_refl 2
  | o => Nat.le_refl 2
  | c k r => by
    have h1 := size_nodes k
    have h2 := size_nodes r
    show (k.size + r.size + 1) + 1 ≤ 2 * (k.nodes + r.nodes)
    omega
theorem ShV.dtv {K : PySem.W.Frag} {H : Hp} {v : V} {t : Dt} (h : ShV K H v t) : DtV K H v t := by
  obtain ⟨a, vs, rfl, h1, h2⟩ := h
  exact .inr ⟨a, vs, rfl, h1, h2.dtf⟩
/-- a tree just made -/
theorem tree_made {K : PySem.W.Frag} {C tp g x dx : Addr} {v : V} {t : Dt} {H H' : Hp} {L : Nat → Addr} {S : Nat → List V} (hT : Tape H tp g) (hx : H x = none) (hdx : H dx = none) (hne : dx ≠ x) (hv : ShV K H v t) (hn : t.nodes ≤ 1000)
    (TA : TreeAt C H' x dx v L S) (kp : ∀ y o, (upd (upd H dx (.own x)) x (.ins C dx [])) y = some o → y ≠ x → H' y = some o) (F : Full K H' t S) (fr : ∀ i, i < 10 → (upd (upd H dx (.own x)) x (.ins C dx [])) (L i) = none) :
    Same H H' ∧ Tree K (mem tp g H') C x t := by
  have sm : Same H H' := fun y o h => kp y o (by rw [upd_ne (ne_of_none h hx), upd_ne (ne_of_none h hdx)]; exact h) (ne_of_none h hx)
  have hT' := hT.same sm
  have nx := hT.ne hx
  have ktm := mem_keepT hT'
  refine ⟨sm, dx, v, L, S, ⟨mem_at TA.ob nx.1 nx.2, fun i hi => ?_, TA.inj⟩, fun i hi => Paired.mono (fun v q c => Cell.keep ktm i v q c) (F i hi), (hv.keep (KeepT.of_same sm)).keep ktm, hn⟩
  have hfr := fr i hi
  have hL : H (L i) = none := by
    cases e : H (L i) with
    | none => rfl
    | some o =>
      rw [upd_ne (ne_of_none e hx), upd_ne (ne_of_none e hdx), e] at hfr
      exact nomatch hfr
  have nL := hT.ne hL
  exact mem_at (TA.ls i hi) nL.1 nL.2
def spLaw (K : PySem.W.Frag) : Sp := fun vs H Q _ => ∃ (a : Addr) (ns : List Int), vs = [.ref a] ∧ SqL K H a (ns.map V.int) ∧ ns.length ≤ 63 ∧ ∀ H', Q (.bl true) H'
theorem sizes_at {r : Nat} (h : r < 4) {a0 a1 a2 a3 : Addr} : ∃ s, atI [V.ref a0, V.ref a1, V.ref a2, V.ref a3] (r : Nat) = some (.ref s) ∧ ((s = a0 ∧ r = 0) ∨ (s = a1 ∧ r = 1) ∨ (s = a2 ∧ r = 2) ∨ (s = a3 ∧ r = 3)) := by
  have h' : r = 0 ∨ r = 1 ∨ r = 2 ∨ r = 3 := by omega
  rcases h' with rfl | rfl | rfl | rfl
  · exact ⟨a0, rfl, .inl ⟨rfl, rfl⟩⟩
  · exact ⟨a1, rfl, .inr (.inl ⟨rfl, rfl⟩)⟩
  · exact ⟨a2, rfl, .inr (.inr (.inl ⟨rfl, rfl⟩))⟩
  · exact ⟨a3, rfl, .inr (.inr (.inr ⟨rfl, rfl⟩))⟩
section
variable {P : Program} {w : World} {K : PySem.W.Frag} {mg : Str → Option Value} {base : Heap} {C U fG fC : Addr} {fdC : FuncData}
theorem ix_listK {X : Cx} (e : X.K = K) : IxR X (rIxL K) := by subst e; exact ix_list
theorem call_len_seqK {X : Cx} (e : X.K = K) : CallR X (.builtin "len") (fun xs H Q => ∃ p ys, xs = [.ref p] ∧ (SqL K H p ys ∨ SqT K H p ys) ∧ Q (.int (ys.length : Nat)) H) := by subst e; exact call_len_seq
theorem ok_law {fL : Addr} {fdL : FuncData} (F : Fun K "law" "law" s_law fL fdL) (T : Txt K mg) (TC : TCl K mg C fG) (FM : FQ P w K mg base C) (M : Mk K C fC) (gC : mg "ShapeTree" = some (.ref C)) (bC : Binds K fdC ["self", "form"] []) (kC : KBn K fdC ["self", "form"] 1 ["form"] (fun us ws => us ++ ws) (fun vs zs => vs ++ zs))
    (FC : FnOk P w K mg base (L2.CX P w) 21 fC fdC ["self", "form"] (spInit K C U 20)) (GT : CalX P w K mg base CX0 1 "_law_tape" ["script"] (spTape K)) (GP : CalX P w K mg base CX0 1 "_law_pick" ["tape", "span"] spPick)
    (GM : CalX P w K mg base CX0 14 "_law_made" ["tape", "most", "room"] (spMade K)) (GR : CalX P w K mg base CX0 18 "_law_tree_right" ["tape", "tree", "shape", "named"] (spTreeRight K C))
    (GA : CalX P w K mg base CX0 13 "_law_places" ["shape"] (spPlaces K 13)) (GL : CalX P w K mg base CX0 1 "_law_leaves" ["places"] (spLeaves K)) (GS : CalX P w K mg base CX0 16 "_law_same" ["mine", "due"] (spSame K 16))
    (GQ : CalX P w K mg base CX0 17 "_law_queue_right" ["tree", "places", "leaves", "spot", "named"] (spQueueRight K C)) (GX : CalX P w K mg base CX0 17 "_law_pair_right" ["tree", "places", "first", "second", "named"] (spPairRight K C))
    (GU : CalX P w K mg base CX0 23 "_law_unmade" ["item"] (spUnmade K)) : FnOk P w K mg base CX0 24 fL fdL ["script"] (spLaw K) := by
  refine F.ok sc_law (fun vs H Q E h => ?_) (fun cdv A outer s H vs Q E hr h => ?_)
  · obtain ⟨a, ns, rfl, _⟩ := h
    rfl
  obtain ⟨a, ns, rfl, ha, hl, q⟩ := h
  refine ⟨_, pss_cons (ps_set (i := 1) sc_law.nd rfl (.inr rfl) (pe_c0 GT hr (by decide) rfl (pa_cons (pv 0) pa_nil)))
    (pss_cons (ps_set (i := 2) sc_law.nd rfl (.inl rfl) (pe_ix ix_list (pe_lst (pa_cons (pe_lst (pa_cons pe_int (pa_cons pe_int pa_nil))) (pa_cons (pe_lst (pa_cons pe_int (pa_cons pe_int pa_nil))) (pa_cons (pe_lst (pa_cons pe_int (pa_cons pe_int pa_nil))) (pa_cons (pe_lst (pa_cons pe_int (pa_cons pe_int pa_nil))) pa_nil))))) (pe_c0 GP hr (by decide) rfl (pa_cons (pv 1) (pa_cons pe_int pa_nil))) (fun _ _ => rfl)))
    (pss_cons (ps_set (i := 3) sc_law.nd rfl (.inl rfl) (pe_c0 GM hr (by decide) rfl (pa_cons (pv 1) (pa_cons (pe_ix ix_list (pv 2) pe_int (fun _ _ => rfl)) (pa_cons (pe_ix ix_list (pv 2) pe_int (fun _ _ => rfl)) pa_nil)))))
    (pss_cons (ps_set (i := 4) sc_law.nd rfl (.inl rfl) (pe_c0 GM hr (by decide) rfl (pa_cons (pv 1) (pa_cons pe_int (pa_cons pe_int pa_nil)))))
    (pss_cons (ps_set (i := 5) sc_law.nd rfl (.inl rfl) (pe_make M FC (hr.mono (by decide)) rfl gC bC .nil passE (pa_cons (pv 3) pa_nil)))
    (pss_cons (ps_set (i := 6) sc_law.nd rfl (.inl rfl) (pe_makeK0 M FC (hr.mono (by decide)) rfl gC kC passE (pk_cons (pv 4) pk_nil)))
    (pss_cons (ps_if (PW.pt (pw_or (pt_not (pt_val (pe_c0 GR hr (by decide) rfl (pa_cons (pv 1) (pa_cons (pv 5) (pa_cons (pv 3) (pa_cons pe_bl pa_nil))))))) (pw_or1 (pt_not (pt_val (pe_c0 GR hr (by decide) rfl (pa_cons (pv 1) (pa_cons (pv 6) (pa_cons (pv 4) (pa_cons pe_bl pa_nil)))))))))) (pss_one (ps_ret pe_bl)) pss_nil)
    (pss_cons (ps_set (i := 7) sc_law.nd rfl (.inl rfl) (pe_c0 GA hr (by decide) rfl (pa_cons (pv 3) pa_nil)))
    (pss_cons (ps_set (i := 8) sc_law.nd rfl (.inl rfl) (pe_c0 GL hr (by decide) rfl (pa_cons (pv 7) pa_nil)))
    (pss_cons (ps_for PassesOwn.never rfl (pi_range1 rfl T.range (pa_cons (pe_callB (call_min2 rfl) (by rfl) T.min (by decide +kernel) (pa_cons pe_int (pa_cons (pe_callB call_len_seq (by rfl) T.len PySem.boot_len (pa_cons (pv 8) pa_nil)) pa_nil))) pa_nil)) (pg_name (i := 9) sc_law.nd rfl (Or.inl rfl))
      (pss_cons (ps_if (pt_not (pt_val (pe_c0 GQ hr (by decide) rfl (pa_cons (pv 5) (pa_cons (pv 7) (pa_cons (pv 8) (pa_cons (pv 9) (pa_cons pe_bl pa_nil)))))))) (pss_one (ps_ret pe_bl)) pss_nil)
      (pss_one (ps_if (pt_not (pt_val (pe_c0 GX hr (by decide) rfl (pa_cons (pv 5) (pa_cons (pv 7) (pa_cons (pe_c0 GP hr (by decide) rfl (pa_cons (pv 1) (pa_cons (pe_callB call_len_seq (by rfl) T.len PySem.boot_len (pa_cons (pv 7) pa_nil)) pa_nil))) (pa_cons (pv 9) (pa_cons pe_bl pa_nil)))))))) (pss_one (ps_ret pe_bl)) pss_nil))))
    (pss_cons (ps_if (PW.pt (pw_or (pt_not (pt_val (pe_c0 GS hr (by decide) rfl (pa_cons (pe_form (pv 6) TC.cl FM hr (by decide)) (pa_cons (pv 4) pa_nil))))) (pw_or1 (pt_not (pt_val (pe_c0 GS hr (by decide) rfl (pa_cons (pe_form (pv 5) TC.cl FM hr (by decide)) (pa_cons (pv 3) pa_nil)))))))) (pss_one (ps_ret pe_bl)) pss_nil)
    (pss_cons (ps_set (i := 10) sc_law.nd rfl (.inr rfl) (pe_lst (pa_cons (pe_lst pa_nil) (pa_cons pe_non (pa_cons pe_int (pa_cons pe_bl (pa_cons pe_str (pa_cons (pe_lst (pa_cons (pe_tup pa_nil) pa_nil)) (pa_cons (pe_tup (pa_cons (pe_tup pa_nil) (pa_cons (pe_lst (pa_cons (pe_tup pa_nil) pa_nil)) pa_nil))) (pa_cons (pe_op op_repT (pe_tup (pa_cons (pe_tup pa_nil) pa_nil)) pe_int) (pa_cons (pe_tup (pa_cons (pe_tup pa_nil) (pa_cons pe_non pa_nil))) (pa_cons (pe_tup (pa_cons pe_int pa_nil)) (pa_cons pe_str (pa_cons (pe_tup (pa_cons (pe_tup pa_nil) (pa_cons (pe_tup (pa_cons (pe_tup pa_nil) (pa_cons pe_bl pa_nil))) pa_nil))) pa_nil))))))))))))))
    (pss_one (ps_ret (pe_callB (cr_all rfl) (by rfl) T.all (by decide +kernel) (pa_cons (pe_lc (own := [("turn", 11)]) (g := gName 11) (tt := tYes) (by rfl) sc_law.nd (pi_range1 rfl T.range (pa_cons pe_int pa_nil))
        (blkOk_by (own := [("turn", 11)]) (N := N_law) (sc := defScope s_law) (by decide +kernel)) (fun _ _ _ _ _ => pg_name (i := 11) sc_law.nd rfl (Or.inl rfl)) (fun _ _ _ _ _ => pts_nil)
        (fun _ _ _ _ _ => by exact (pe_c0 GU hr (by decide) rfl (pa_cons (pe_ix (ix_listK (K := K) (by exact rfl)) (pv 10) (pe_c0 GP hr (by decide) rfl (pa_cons (pv 1) (pa_cons (pe_callB (call_len_seqK (K := K) (by exact rfl)) (by rfl) T.len PySem.boot_len (pa_cons (pv 10) pa_nil)) pa_nil))) (fun _ _ => rfl)) pa_nil)))) pa_nil))))))))))))))), ?_⟩
  -- the tape, sizes
  refine ⟨_, rfl, a, ns, rfl, ha, hl, fun H1 tp g sm1 hT1 htp hg => ?_⟩
  have kt_of : ∀ {Ha Hb : Hp}, Tape Ha tp g → KeepB tp g Ha Hb → KeepT Ha Hb := fun t k => (mem_keepT t).trans (KeepT.of_same ((mem_keep k).trans (mem_same tp g _)))

  refine ⟨(by show 2 ≤ sizeLine; decide), fun a0 n0 => ?_⟩
  have S0 : Same H1 (upd H1 a0 (HO.lst [V.int 6, V.int 16])) := same_new n0
  have E0 : (upd H1 a0 (HO.lst [V.int 6, V.int 16])) a0 = some (HO.lst [V.int 6, V.int 16]) := upd_same
  revert S0 E0
  generalize upd H1 a0 (HO.lst [V.int 6, V.int 16]) = Hs0
  intro S0 E0
  refine ⟨(by show 2 ≤ sizeLine; decide), fun a1 n1 => ?_⟩
  have S1 : Same Hs0 (upd Hs0 a1 (HO.lst [V.int 14, V.int 16])) := same_new n1
  have E1 : (upd Hs0 a1 (HO.lst [V.int 14, V.int 16])) a1 = some (HO.lst [V.int 14, V.int 16]) := upd_same
  revert S1 E1
  generalize upd Hs0 a1 (HO.lst [V.int 14, V.int 16]) = Hs1
  intro S1 E1
  refine ⟨(by show 2 ≤ sizeLine; decide), fun a2 n2 => ?_⟩
  have S2 : Same Hs1 (upd Hs1 a2 (HO.lst [V.int 30, V.int 16])) := same_new n2
  have E2 : (upd Hs1 a2 (HO.lst [V.int 30, V.int 16])) a2 = some (HO.lst [V.int 30, V.int 16]) := upd_same
  revert S2 E2
  generalize upd Hs1 a2 (HO.lst [V.int 30, V.int 16]) = Hs2
  intro S2 E2
  refine ⟨(by show 2 ≤ sizeLine; decide), fun a3 n3 => ?_⟩
  have S3 : Same Hs2 (upd Hs2 a3 (HO.lst [V.int 63, V.int 24])) := same_new n3
  have E3 : (upd Hs2 a3 (HO.lst [V.int 63, V.int 24])) a3 = some (HO.lst [V.int 63, V.int 24]) := upd_same
  revert S3 E3
  generalize upd Hs2 a3 (HO.lst [V.int 63, V.int 24]) = Hs3
  intro S3 E3
  refine ⟨(by show 4 ≤ sizeLine; decide), fun a4 n4 => ?_⟩
  have S4 : Same Hs3 (upd Hs3 a4 (.lst [.ref a0, .ref a1, .ref a2, .ref a3])) := same_new n4
  have E4 : (upd Hs3 a4 (.lst [.ref a0, .ref a1, .ref a2, .ref a3])) a4 = some (.lst [.ref a0, .ref a1, .ref a2, .ref a3]) := upd_same
  revert S4 E4
  generalize upd Hs3 a4 (.lst [.ref a0, .ref a1, .ref a2, .ref a3]) = H2
  intro S4 E4
  have z0 := hT1.ne n0
  have hTs0 := hT1.same S0
  have z1 := hTs0.ne n1
  have hTs1 := hTs0.same S1
  have z2 := hTs1.ne n2
  have hTs2 := hTs1.same S2
  have z3 := hTs2.ne n3
  have hTs3 := hTs2.same S3
  have z4 := hTs3.ne n4
  have hT2 := hTs3.same S4
  have F0 := S4 _ _ (S3 _ _ (S2 _ _ (S1 _ _ E0)))
  have F1 := S4 _ _ (S3 _ _ (S2 _ _ E1))
  have F2 := S4 _ _ (S3 _ _ E2)
  have F3 := S4 _ _ E3
  refine ⟨_, rfl, tp, g, 4, rfl, hT2, by decide, by decide, fun H3 r hr3 hT3 hB3 => ?_⟩
  obtain ⟨s', hs1, hs2⟩ := sizes_at (a0 := a0) (a1 := a1) (a2 := a2) (a3 := a3) hr3
  refine ⟨a4, _, _, _, rfl, rfl, SqL.of ((hB3 a4 z4.1 z4.2).trans E4), hs1, ?_⟩
  obtain ⟨m, rm, hsz, hm1, hm2⟩ : ∃ (m : Nat) (rm : Int), H3 s' = some (.lst [.int (m : Nat), .int rm]) ∧ 1 ≤ m ∧ m ≤ 63 := by
    rcases hs2 with ⟨rfl, _⟩ | ⟨rfl, _⟩ | ⟨rfl, _⟩ | ⟨rfl, _⟩
    · exact ⟨6, 16, (hB3 _ z0.1 z0.2).trans F0, by decide, by decide⟩
    · exact ⟨14, 16, (hB3 _ z1.1 z1.2).trans F1, by decide, by decide⟩
    · exact ⟨30, 16, (hB3 _ z2.1 z2.2).trans F2, by decide, by decide⟩
    · exact ⟨63, 24, (hB3 _ z3.1 z3.2).trans F3, by decide, by decide⟩
  -- the two shapes
  refine ⟨_, rfl, _, rfl, s', _, _, _, rfl, rfl, SqL.of hsz, rfl, _, rfl, s', _, _, _, rfl, rfl, SqL.of hsz, rfl, tp, g, m, rm, rfl, hT3, hm1, hm2, fun H4 v1 t1 hT4 k4 hv1 g1 ht1 hn1 => ?_⟩
  refine ⟨_, rfl, tp, g, 10, 9, rfl, hT4, by decide, by decide, fun H5 v2 t2 hT5 k5 hv2 g2 ht2 hn2 => ?_⟩
  have hv15 := hv1.keep (kt_of hT4 k5)
  have hz1 := size_nodes t1
  have hz2 := size_nodes t2
  -- tree = ShapeTree(shape)
  refine ⟨_, rfl, fun x dx hx hdx hne => ?_⟩
  have sx : Same H5 (upd (upd H5 dx (.own x)) x (.ins C dx [])) := fun y o h => by rw [upd_ne (ne_of_none h hx), upd_ne (ne_of_none h hdx)]; exact h
  refine ⟨x, dx, v1, t1, rfl, upd_same, same_dtv sx hv15.dtv, by omega, fun _ => ⟨by omega, by omega, fun H6 L6 S6 TA6 kp6 F6 fr6 => ⟨rfl, ?_⟩⟩, fun bad => absurd (g1.symm.trans bad) (by decide)⟩
  obtain ⟨sm6, tr6⟩ := tree_made hT5 hx hdx hne hv15 (by omega) TA6 kp6 F6 fr6
  have hT6 := hT5.same sm6
  have hv26 := hv2.keep (KeepT.of_same sm6)
  -- other_tree = ShapeTree(form=lesser)
  refine ⟨_, rfl, rfl, rfl, fun y dy hy hdy hne2 => ?_⟩
  have sy : Same H6 (upd (upd H6 dy (.own y)) y (.ins C dy [])) := fun z o h => by rw [upd_ne (ne_of_none h hy), upd_ne (ne_of_none h hdy)]; exact h
  refine ⟨y, dy, v2, t2, rfl, upd_same, same_dtv sy hv26.dtv, by omega, fun _ => ⟨by omega, by omega, fun H7 L7 S7 TA7 kp7 F7 fr7 => ⟨rfl, ?_⟩⟩, fun bad => absurd (g2.symm.trans bad) (by decide)⟩
  obtain ⟨sm7, tr7⟩ := tree_made hT6 hy hdy hne2 hv26 (by omega) TA7 kp7 F7 fr7
  have hT7 := hT6.same sm7
  have ktm := mem_keepT hT7
  have trx : Tree K (mem tp g H7) C x t1 := tr6.same (mem_keep ((KeepB.refl tp g H6).same sm7))
  have svx : ShV K (mem tp g H7) v1 t1 := ((hv15.keep (KeepT.of_same sm6)).keep (KeepT.of_same sm7)).keep ktm
  have svy : ShV K (mem tp g H7) v2 t2 := (hv26.keep (KeepT.of_same sm7)).keep ktm
  -- both trees
  refine ⟨_, rfl, _, rfl, _, rfl, tp, g, x, v1, t1, false, rfl, hT7, trx, svx, ht1, hn1, fun H8 hT8 k8 => ⟨_, rfl, ?_⟩⟩
  refine iteF ?_
  refine ⟨_, rfl, _, rfl, _, rfl, tp, g, y, v2, t2, true, rfl, hT8, tr7.same (mem_keep k8), svy.keep (KeepT.of_same (mem_keep k8)), ht2, hn2, fun H9 hT9 k89 => ⟨_, rfl, ?_⟩⟩
  refine iteF ?_
  have k9 := k8.trans k89
  have at7 : ∀ H', KeepB tp g H7 H' → Tree K H' C x t1 ∧ ShV K H' v1 t1 ∧ Tree K H' C y t2 ∧ ShV K H' v2 t2 := fun H' k =>
    ⟨(trx.same (mem_keep k)).same (mem_same tp g H'), (svx.keep (KeepT.of_same (mem_keep k))).keep (KeepT.of_same (mem_same tp g H')), (tr7.same (mem_keep k)).same (mem_same tp g H'), (svy.keep (KeepT.of_same (mem_keep k))).keep (KeepT.of_same (mem_same tp g H'))⟩
  -- places, leaves
  refine ⟨_, rfl, v1, t1, rfl, (at7 H9 k9).2.1, by omega, by omega, fun H10 Pl xs sm10 hPl0 hP hxs => ?_⟩
  refine ⟨_, rfl, Pl, xs, t1, rfl, hP, hxs, by omega, fun H11 Lv ys sm11 hLv0 hL hys => ?_⟩
  have nP := hT9.ne hPl0
  have hT10 := hT9.same sm10
  have nL := hT10.ne hLv0
  have hT11 := hT10.same sm11
  have k11 : KeepB tp g H7 H11 := (k9.same sm10).same sm11
  have ktm11 := mem_keepT hT11
  have le : LawEnv K (mem tp g H11) C x v1 Pl Lv t1 := ⟨trx.same (mem_keep k11), svx.keep (KeepT.of_same (mem_keep k11)), ⟨xs, mem_at (sm11 _ _ hP) nP.1 nP.2, Paired.mono (fun v q c => c.keep ((KeepT.of_same sm11).trans ktm11)) hxs⟩, ⟨ys, mem_at hL nL.1 nL.2, Paired.mono (fun v q c => c.keep ktm11) hys⟩, ht1, by omega⟩
  have env : ∀ H', KeepB tp g H11 H' → LawEnv K H' C x v1 Pl Lv t1 := fun H' k => (le.same (mem_keep k)).same (mem_same tp g H')
  have hlen : xs.length = t1.nodes := by rw [Paired.len hxs, ad_len]
  have hlenL : ys.length = t1.lf := Paired.len hys
  have hlfn : t1.lf ≤ t1.nodes := by
    rw [← ad_len]
    exact List.length_filter_le _ _
  have np := t1.nodes_pos
  refine ⟨_, rfl, Lv, _, rfl, .inl (SqL.of hL), _, _, rfl, _, rfl, ?_, ?_, for_range (lo := 0) (n := (if ((ys.length : Nat) : Int) < 4 then ((ys.length : Nat) : Int) else 4).toNat) (fun i σ H' => ∃ o9, σ = [some (.ref a), some (.ref tp), some (.ref s'), some v1, some v2, some (.ref x), some (.ref y), some (.ref Pl), some (.ref Lv), o9, none, none] ∧ Tape H' tp g ∧ KeepB tp g H11 H') ⟨none, rfl, hT11, KeepB.refl tp g H11⟩ ?_ ?_⟩
  · split <;> omega
  · split <;> omega
  · rintro i σ H' hi ⟨o9, rfl, hT', k'⟩
    have hil : i < t1.lf := by
      have : (if ((ys.length : Nat) : Int) < 4 then ((ys.length : Nat) : Int) else 4) ≤ ((ys.length : Nat) : Int) := by split <;> omega
      omega
    refine ⟨_, rfl, _, rfl, _, rfl, _, rfl, x, Pl, Lv, v1, t1, i, true, congrArg (fun z => [V.ref x, V.ref Pl, V.ref Lv, V.int z, V.bl true]) (Int.zero_add _), env H' k', hil, fun Ha sma => ⟨_, rfl, ?_⟩⟩
    refine iteF ?_
    have ka := k'.same sma
    have hTa := hT'.same sma
    obtain ⟨xs2, hP2, hx2⟩ := (env Ha ka).pl
    have hlen2 : xs2.length = t1.nodes := by rw [Paired.len hx2, ad_len]
    refine ⟨_, rfl, _, rfl, _, rfl, _, rfl, Pl, _, rfl, .inl (SqL.of hP2), tp, g, t1.nodes, congrArg (fun z : Nat => [V.ref tp, V.int z]) hlen2, hTa, by omega, by omega, fun Hb z hz hTb hBb => ?_⟩
    refine ⟨_, rfl, x, Pl, Lv, v1, t1, z, i, false, congrArg (fun n => [V.ref x, V.ref Pl, V.int (z : Nat), V.int n, V.bl false]) (Int.zero_add _), env Hb (ka.but hBb), hz, by omega, fun Hc smc => ⟨_, rfl, ?_⟩⟩
    refine iteF ?_
    exact ⟨_, rfl, hTb.same smc, (ka.but hBb).same smc⟩
  rintro σ H12 ⟨o9, rfl, hT12, k12⟩
  have k712 := k11.trans k12
  obtain ⟨tx, sx1, ty, sy1⟩ := at7 H12 k712
  obtain ⟨dy2, fvy, Ly, Sy, TAy, _⟩ := id ty
  refine ⟨_, rfl, y, dy2, _, rfl, TAy.ob, rfl, y, t2, rfl, ty, fun v' hv' => ?_⟩
  refine ⟨_, rfl, v', v2, shD t2, rfl, hv'.dp, sy1.dp, plain_shD (n := 15) (by omega) (by omega), fun H13 sm13 => ⟨_, rfl, ?_⟩⟩
  refine iteF ?_
  obtain ⟨tx3, sx3, _, _⟩ := at7 H13 (k712.same sm13)
  obtain ⟨dx2, fvx, Lx, Sx, TAx, _⟩ := id tx3
  refine ⟨_, rfl, x, dx2, _, rfl, TAx.ob, rfl, x, t1, rfl, tx3, fun v' hv' => ?_⟩
  refine ⟨_, rfl, v', v1, shD t1, rfl, hv'.dp, sx3.dp, plain_shD (n := 15) (by omega) (by omega), fun H14 sm14 => ⟨_, rfl, ?_⟩⟩
  refine iteF ?_
  have hT14 := (hT12.same sm13).same sm14
  -- odd
  refine ⟨(by show 0 ≤ sizeLine; decide), fun b1 m0 => ?_⟩
  have Y0 : Same H14 (upd H14 b1 (HO.lst [])) := same_new m0
  have X0 : (upd H14 b1 (HO.lst [])) b1 = some (HO.lst []) := upd_same
  have W0 := hT14.ne m0
  have hTo0 := hT14.same Y0
  revert Y0 X0 hTo0
  generalize upd H14 b1 (HO.lst []) = Ho0
  intro Y0 X0 hTo0
  refine ⟨(by show 0 ≤ sizeLine; decide), fun b2 m1 => ?_⟩
  have Y1 : Same Ho0 (upd Ho0 b2 (HO.tup [])) := same_new m1
  have X1 : (upd Ho0 b2 (HO.tup [])) b2 = some (HO.tup []) := upd_same
  have W1 := hTo0.ne m1
  have hTo1 := hTo0.same Y1
  revert Y1 X1 hTo1
  generalize upd Ho0 b2 (HO.tup []) = Ho1
  intro Y1 X1 hTo1
  refine ⟨(by show 1 ≤ sizeLine; decide), fun b3 m2 => ?_⟩
  have Y2 : Same Ho1 (upd Ho1 b3 (HO.lst [V.ref b2])) := same_new m2
  have X2 : (upd Ho1 b3 (HO.lst [V.ref b2])) b3 = some (HO.lst [V.ref b2]) := upd_same
  have W2 := hTo1.ne m2
  have hTo2 := hTo1.same Y2
  revert Y2 X2 hTo2
  generalize upd Ho1 b3 (HO.lst [V.ref b2]) = Ho2
  intro Y2 X2 hTo2
  refine ⟨(by show 0 ≤ sizeLine; decide), fun b4 m3 => ?_⟩
  have Y3 : Same Ho2 (upd Ho2 b4 (HO.tup [])) := same_new m3
  have X3 : (upd Ho2 b4 (HO.tup [])) b4 = some (HO.tup []) := upd_same
  have W3 := hTo2.ne m3
  have hTo3 := hTo2.same Y3
  revert Y3 X3 hTo3
  generalize upd Ho2 b4 (HO.tup []) = Ho3
  intro Y3 X3 hTo3
  refine ⟨(by show 0 ≤ sizeLine; decide), fun b5 m4 => ?_⟩
  have Y4 : Same Ho3 (upd Ho3 b5 (HO.tup [])) := same_new m4
  have X4 : (upd Ho3 b5 (HO.tup [])) b5 = some (HO.tup []) := upd_same
  have W4 := hTo3.ne m4
  have hTo4 := hTo3.same Y4
  revert Y4 X4 hTo4
  generalize upd Ho3 b5 (HO.tup []) = Ho4
  intro Y4 X4 hTo4
  refine ⟨(by show 1 ≤ sizeLine; decide), fun b6 m5 => ?_⟩
  have Y5 : Same Ho4 (upd Ho4 b6 (HO.lst [V.ref b5])) := same_new m5
  have X5 : (upd Ho4 b6 (HO.lst [V.ref b5])) b6 = some (HO.lst [V.ref b5]) := upd_same
  have W5 := hTo4.ne m5
  have hTo5 := hTo4.same Y5
  revert Y5 X5 hTo5
  generalize upd Ho4 b6 (HO.lst [V.ref b5]) = Ho5
  intro Y5 X5 hTo5
  refine ⟨(by show 2 ≤ sizeLine; decide), fun b7 m6 => ?_⟩
  have Y6 : Same Ho5 (upd Ho5 b7 (HO.tup [V.ref b4, V.ref b6])) := same_new m6
  have X6 : (upd Ho5 b7 (HO.tup [V.ref b4, V.ref b6])) b7 = some (HO.tup [V.ref b4, V.ref b6]) := upd_same
  have W6 := hTo5.ne m6
  have hTo6 := hTo5.same Y6
  revert Y6 X6 hTo6
  generalize upd Ho5 b7 (HO.tup [V.ref b4, V.ref b6]) = Ho6
  intro Y6 X6 hTo6
  refine ⟨(by show 0 ≤ sizeLine; decide), fun b8 m7 => ?_⟩
  have Y7 : Same Ho6 (upd Ho6 b8 (HO.tup [])) := same_new m7
  have X7 : (upd Ho6 b8 (HO.tup [])) b8 = some (HO.tup []) := upd_same
  have W7 := hTo6.ne m7
  have hTo7 := hTo6.same Y7
  revert Y7 X7 hTo7
  generalize upd Ho6 b8 (HO.tup []) = Ho7
  intro Y7 X7 hTo7
  refine ⟨(by show 1 ≤ sizeLine; decide), fun b9 m8 => ?_⟩
  have Y8 : Same Ho7 (upd Ho7 b9 (HO.tup [V.ref b8])) := same_new m8
  have X8 : (upd Ho7 b9 (HO.tup [V.ref b8])) b9 = some (HO.tup [V.ref b8]) := upd_same
  have W8 := hTo7.ne m8
  have hTo8 := hTo7.same Y8
  revert Y8 X8 hTo8
  generalize upd Ho7 b9 (HO.tup [V.ref b8]) = Ho8
  intro Y8 X8 hTo8
  refine ⟨b9, 7, [V.ref b8], rfl, rfl, SqT.of X8, (by simp), by decide, by decide, (by show 1 ≤ 1000; decide), fun b10 m9 => ?_⟩
  have Y9 : Same Ho8 (upd Ho8 b10 (HO.tup [V.ref b8, V.ref b8, V.ref b8, V.ref b8, V.ref b8, V.ref b8, V.ref b8])) := same_new m9
  have X9 : (upd Ho8 b10 (HO.tup [V.ref b8, V.ref b8, V.ref b8, V.ref b8, V.ref b8, V.ref b8, V.ref b8])) b10 = some (HO.tup [V.ref b8, V.ref b8, V.ref b8, V.ref b8, V.ref b8, V.ref b8, V.ref b8]) := upd_same
  have W9 := hTo8.ne m9
  have hTo9 := hTo8.same Y9
  have er : (HO.tup (List.replicate (7 : Int).toNat [V.ref b8]).flatten) = (HO.tup [V.ref b8, V.ref b8, V.ref b8, V.ref b8, V.ref b8, V.ref b8, V.ref b8]) := rfl
  rw [er]
  revert Y9 X9 hTo9
  generalize upd Ho8 b10 (HO.tup [V.ref b8, V.ref b8, V.ref b8, V.ref b8, V.ref b8, V.ref b8, V.ref b8]) = Ho9
  intro Y9 X9 hTo9
  refine ⟨(by show 0 ≤ sizeLine; decide), fun b11 m10 => ?_⟩
  have Y10 : Same Ho9 (upd Ho9 b11 (HO.tup [])) := same_new m10
  have X10 : (upd Ho9 b11 (HO.tup [])) b11 = some (HO.tup []) := upd_same
  have W10 := hTo9.ne m10
  have hTo10 := hTo9.same Y10
  revert Y10 X10 hTo10
  generalize upd Ho9 b11 (HO.tup []) = Ho10
  intro Y10 X10 hTo10
  refine ⟨(by show 2 ≤ sizeLine; decide), fun b12 m11 => ?_⟩
  have Y11 : Same Ho10 (upd Ho10 b12 (HO.tup [V.ref b11, V.non])) := same_new m11
  have X11 : (upd Ho10 b12 (HO.tup [V.ref b11, V.non])) b12 = some (HO.tup [V.ref b11, V.non]) := upd_same
  have W11 := hTo10.ne m11
  have hTo11 := hTo10.same Y11
  revert Y11 X11 hTo11
  generalize upd Ho10 b12 (HO.tup [V.ref b11, V.non]) = Ho11
  intro Y11 X11 hTo11
  refine ⟨(by show 1 ≤ sizeLine; decide), fun b13 m12 => ?_⟩
  have Y12 : Same Ho11 (upd Ho11 b13 (HO.tup [V.int 0])) := same_new m12
  have X12 : (upd Ho11 b13 (HO.tup [V.int 0])) b13 = some (HO.tup [V.int 0]) := upd_same
  have W12 := hTo11.ne m12
  have hTo12 := hTo11.same Y12
  revert Y12 X12 hTo12
  generalize upd Ho11 b13 (HO.tup [V.int 0]) = Ho12
  intro Y12 X12 hTo12
  refine ⟨(by show 0 ≤ sizeLine; decide), fun b14 m13 => ?_⟩
  have Y13 : Same Ho12 (upd Ho12 b14 (HO.tup [])) := same_new m13
  have X13 : (upd Ho12 b14 (HO.tup [])) b14 = some (HO.tup []) := upd_same
  have W13 := hTo12.ne m13
  have hTo13 := hTo12.same Y13
  revert Y13 X13 hTo13
  generalize upd Ho12 b14 (HO.tup []) = Ho13
  intro Y13 X13 hTo13
  refine ⟨(by show 0 ≤ sizeLine; decide), fun b15 m14 => ?_⟩
  have Y14 : Same Ho13 (upd Ho13 b15 (HO.tup [])) := same_new m14
  have X14 : (upd Ho13 b15 (HO.tup [])) b15 = some (HO.tup []) := upd_same
  have W14 := hTo13.ne m14
  have hTo14 := hTo13.same Y14
  revert Y14 X14 hTo14
  generalize upd Ho13 b15 (HO.tup []) = Ho14
  intro Y14 X14 hTo14
  refine ⟨(by show 2 ≤ sizeLine; decide), fun b16 m15 => ?_⟩
  have Y15 : Same Ho14 (upd Ho14 b16 (HO.tup [V.ref b15, V.bl true])) := same_new m15
  have X15 : (upd Ho14 b16 (HO.tup [V.ref b15, V.bl true])) b16 = some (HO.tup [V.ref b15, V.bl true]) := upd_same
  have W15 := hTo14.ne m15
  have hTo15 := hTo14.same Y15
  revert Y15 X15 hTo15
  generalize upd Ho14 b16 (HO.tup [V.ref b15, V.bl true]) = Ho15
  intro Y15 X15 hTo15
  refine ⟨(by show 2 ≤ sizeLine; decide), fun b17 m16 => ?_⟩
  have Y16 : Same Ho15 (upd Ho15 b17 (HO.tup [V.ref b14, V.ref b16])) := same_new m16
  have X16 : (upd Ho15 b17 (HO.tup [V.ref b14, V.ref b16])) b17 = some (HO.tup [V.ref b14, V.ref b16]) := upd_same
  have W16 := hTo15.ne m16
  have hTo16 := hTo15.same Y16
  revert Y16 X16 hTo16
  generalize upd Ho15 b17 (HO.tup [V.ref b14, V.ref b16]) = Ho16
  intro Y16 X16 hTo16
  refine ⟨(by show 12 ≤ sizeLine; decide), fun od m17 => ?_⟩
  have Y17 : Same Ho16 (upd Ho16 od (HO.lst [V.ref b1, V.non, V.int 0, V.bl true, V.str "o", V.ref b3, V.ref b7, V.ref b10, V.ref b12, V.ref b13, V.str "()", V.ref b17])) := same_new m17
  have X17 : (upd Ho16 od (HO.lst [V.ref b1, V.non, V.int 0, V.bl true, V.str "o", V.ref b3, V.ref b7, V.ref b10, V.ref b12, V.ref b13, V.str "()", V.ref b17])) od = some (HO.lst [V.ref b1, V.non, V.int 0, V.bl true, V.str "o", V.ref b3, V.ref b7, V.ref b10, V.ref b12, V.ref b13, V.str "()", V.ref b17]) := upd_same
  have W17 := hTo16.ne m17
  have hTo17 := hTo16.same Y17
  revert Y17 X17 hTo17
  generalize upd Ho16 od (HO.lst [V.ref b1, V.non, V.int 0, V.bl true, V.str "o", V.ref b3, V.ref b7, V.ref b10, V.ref b12, V.ref b13, V.str "()", V.ref b17]) = Ho17
  intro Y17 X17 hTo17
  have TN := hTo17
  have Z0 : Ho17 b1 = some (HO.lst []) := (Y17 _ _ (Y16 _ _ (Y15 _ _ (Y14 _ _ (Y13 _ _ (Y12 _ _ (Y11 _ _ (Y10 _ _ (Y9 _ _ (Y8 _ _ (Y7 _ _ (Y6 _ _ (Y5 _ _ (Y4 _ _ (Y3 _ _ (Y2 _ _ (Y1 _ _ X0)))))))))))))))))
  have Z1 : Ho17 b2 = some (HO.tup []) := (Y17 _ _ (Y16 _ _ (Y15 _ _ (Y14 _ _ (Y13 _ _ (Y12 _ _ (Y11 _ _ (Y10 _ _ (Y9 _ _ (Y8 _ _ (Y7 _ _ (Y6 _ _ (Y5 _ _ (Y4 _ _ (Y3 _ _ (Y2 _ _ X1))))))))))))))))
  have Z2 : Ho17 b3 = some (HO.lst [V.ref b2]) := (Y17 _ _ (Y16 _ _ (Y15 _ _ (Y14 _ _ (Y13 _ _ (Y12 _ _ (Y11 _ _ (Y10 _ _ (Y9 _ _ (Y8 _ _ (Y7 _ _ (Y6 _ _ (Y5 _ _ (Y4 _ _ (Y3 _ _ X2)))))))))))))))
  have Z3 : Ho17 b4 = some (HO.tup []) := (Y17 _ _ (Y16 _ _ (Y15 _ _ (Y14 _ _ (Y13 _ _ (Y12 _ _ (Y11 _ _ (Y10 _ _ (Y9 _ _ (Y8 _ _ (Y7 _ _ (Y6 _ _ (Y5 _ _ (Y4 _ _ X3))))))))))))))
  have Z4 : Ho17 b5 = some (HO.tup []) := (Y17 _ _ (Y16 _ _ (Y15 _ _ (Y14 _ _ (Y13 _ _ (Y12 _ _ (Y11 _ _ (Y10 _ _ (Y9 _ _ (Y8 _ _ (Y7 _ _ (Y6 _ _ (Y5 _ _ X4)))))))))))))
  have Z5 : Ho17 b6 = some (HO.lst [V.ref b5]) := (Y17 _ _ (Y16 _ _ (Y15 _ _ (Y14 _ _ (Y13 _ _ (Y12 _ _ (Y11 _ _ (Y10 _ _ (Y9 _ _ (Y8 _ _ (Y7 _ _ (Y6 _ _ X5))))))))))))
  have Z6 : Ho17 b7 = some (HO.tup [V.ref b4, V.ref b6]) := (Y17 _ _ (Y16 _ _ (Y15 _ _ (Y14 _ _ (Y13 _ _ (Y12 _ _ (Y11 _ _ (Y10 _ _ (Y9 _ _ (Y8 _ _ (Y7 _ _ X6)))))))))))
  have Z7 : Ho17 b8 = some (HO.tup []) := (Y17 _ _ (Y16 _ _ (Y15 _ _ (Y14 _ _ (Y13 _ _ (Y12 _ _ (Y11 _ _ (Y10 _ _ (Y9 _ _ (Y8 _ _ X7))))))))))
  have Z8 : Ho17 b9 = some (HO.tup [V.ref b8]) := (Y17 _ _ (Y16 _ _ (Y15 _ _ (Y14 _ _ (Y13 _ _ (Y12 _ _ (Y11 _ _ (Y10 _ _ (Y9 _ _ X8)))))))))
  have Z9 : Ho17 b10 = some (HO.tup [V.ref b8, V.ref b8, V.ref b8, V.ref b8, V.ref b8, V.ref b8, V.ref b8]) := (Y17 _ _ (Y16 _ _ (Y15 _ _ (Y14 _ _ (Y13 _ _ (Y12 _ _ (Y11 _ _ (Y10 _ _ X9))))))))
  have Z10 : Ho17 b11 = some (HO.tup []) := (Y17 _ _ (Y16 _ _ (Y15 _ _ (Y14 _ _ (Y13 _ _ (Y12 _ _ (Y11 _ _ X10)))))))
  have Z11 : Ho17 b12 = some (HO.tup [V.ref b11, V.non]) := (Y17 _ _ (Y16 _ _ (Y15 _ _ (Y14 _ _ (Y13 _ _ (Y12 _ _ X11))))))
  have Z12 : Ho17 b13 = some (HO.tup [V.int 0]) := (Y17 _ _ (Y16 _ _ (Y15 _ _ (Y14 _ _ (Y13 _ _ X12)))))
  have Z13 : Ho17 b14 = some (HO.tup []) := (Y17 _ _ (Y16 _ _ (Y15 _ _ (Y14 _ _ X13))))
  have Z14 : Ho17 b15 = some (HO.tup []) := (Y17 _ _ (Y16 _ _ (Y15 _ _ X14)))
  have Z15 : Ho17 b16 = some (HO.tup [V.ref b15, V.bl true]) := (Y17 _ _ (Y16 _ _ X15))
  have Z16 : Ho17 b17 = some (HO.tup [V.ref b14, V.ref b16]) := (Y17 _ _ X16)
  have Z17 : Ho17 od = some (HO.lst [V.ref b1, V.non, V.int 0, V.bl true, V.str "o", V.ref b3, V.ref b7, V.ref b10, V.ref b12, V.ref b13, V.str "()", V.ref b17]) := X17
  have MT := mem_keepT TN
  have tt : ∀ {b : Addr} {xs : List V}, Ho17 b = some (.tup xs) → SqT K (mem tp g Ho17) b xs := fun h => SqT.of ((MT _ _).1 h)
  have ll : ∀ {b : Addr} {xs : List V}, Ho17 b = some (.lst xs) → b ≠ tp → b ≠ g → KindV K (mem tp g Ho17) (.ref b) "list" := fun h h1 h2 => kind_lst (mem_at h h1 h2)
  have items : ∀ k, k < 12 → ∃ xv t, ([V.ref b1, V.non, V.int 0, V.bl true, V.str "o", V.ref b3, V.ref b7, V.ref b10, V.ref b12, V.ref b13, V.str "()", V.ref b17] : List V)[k]? = some xv ∧ DtV K (mem tp g Ho17) xv t ∧ t.size ≤ 100000 ∧ t.good 1 = false := by
    intro k hk
    have hk' : k = 0 ∨ k = 1 ∨ k = 2 ∨ k = 3 ∨ k = 4 ∨ k = 5 ∨ k = 6 ∨ k = 7 ∨ k = 8 ∨ k = 9 ∨ k = 10 ∨ k = 11 := by omega
    rcases hk' with rfl | rfl | rfl | rfl | rfl | rfl | rfl | rfl | rfl | rfl | rfl | rfl
    · exact ⟨_, .x, rfl, .inl ⟨rfl, "list", ll Z0 W0.1 W0.2, by decide⟩, by decide, by decide⟩
    · exact ⟨_, .x, rfl, .inl ⟨rfl, "NoneType", kind_non, by decide⟩, by decide, by decide⟩
    · exact ⟨_, .x, rfl, .inl ⟨rfl, "int", kind_int 0, by decide⟩, by decide, by decide⟩
    · exact ⟨_, .x, rfl, .inl ⟨rfl, "bool", kind_bl true, by decide⟩, by decide, by decide⟩
    · exact ⟨_, .x, rfl, .inl ⟨rfl, "str", kind_str _, by decide⟩, by decide, by decide⟩
    · exact ⟨_, .x, rfl, .inl ⟨rfl, "list", ll Z2 W2.1 W2.2, by decide⟩, by decide, by decide⟩
    · exact ⟨_, .c .o (.c .x .o), rfl, .inr ⟨b7, _, rfl, tt Z6, .tup (tt Z3) .nil (.bad (ll Z5 W5.1 W5.2) (by decide) .nil)⟩, by decide, by decide⟩
    · exact ⟨_, .c .o (.c .o (.c .o (.c .o (.c .o (.c .o (.c .o .o)))))), rfl, .inr ⟨b10, _, rfl, tt Z9, .tup (tt Z7) .nil (.tup (tt Z7) .nil (.tup (tt Z7) .nil (.tup (tt Z7) .nil (.tup (tt Z7) .nil (.tup (tt Z7) .nil (.tup (tt Z7) .nil .nil))))))⟩, by decide, by decide⟩
    · exact ⟨_, .c .o (.c .x .o), rfl, .inr ⟨b12, _, rfl, tt Z11, .tup (tt Z10) .nil (.bad kind_non (by decide) .nil)⟩, by decide, by decide⟩
    · exact ⟨_, .c .x .o, rfl, .inr ⟨b13, _, rfl, tt Z12, .bad (kind_int 0) (by decide) .nil⟩, by decide, by decide⟩
    · exact ⟨_, .x, rfl, .inl ⟨rfl, "str", kind_str _, by decide⟩, by decide, by decide⟩
    · exact ⟨_, .c .o (.c (.c .o (.c .x .o)) .o), rfl, .inr ⟨b17, _, rfl, tt Z16, .tup (tt Z13) .nil (.tup (tt Z15) (.tup (tt Z14) .nil (.bad (kind_bl true) (by decide) .nil)) .nil)⟩, by decide, by decide⟩
  refine ⟨3, rfl, by decide, by decide, fun Dl hDl => lc_range (lo := 0) (n := 3) (fun i H' => Tape H' tp g ∧ KeepB tp g Ho17 H' ∧ H' Dl = some (.lst ((List.replicate i true).map V.bl)))
    ⟨TN.same (same_new hDl), (KeepB.refl tp g Ho17).same (same_new hDl), upd_same⟩ ?_ ?_⟩
  · rintro i H' hi ⟨hT', k', hD⟩
    have nD := TN.ne hDl
    have hod := k' _ _ Z17 W17.1 W17.2
    refine ⟨rfl, ?_⟩
    refine ⟨_, rfl, _, rfl, _, rfl, od, _, rfl, .inl (SqL.of hod), tp, g, 12, rfl, hT', by decide, by decide, fun Ha k hk hTa hBa => ?_⟩
    have ka := k'.but hBa
    obtain ⟨xv, t, hxv, hdt, hsz2, hbad⟩ := items k hk
    have hDa : Ha Dl = _ := (hBa Dl nD.1 nD.2).trans hD
    refine ⟨od, _, _, _, rfl, rfl, SqL.of (ka _ _ Z17 W17.1 W17.2), atI_nat hxv, ?_⟩
    dsimp only [L2.tNil]
    refine ⟨xv, t, rfl, same_dtv ((mem_keep ka).trans (mem_same tp g Ha)) hdt, hsz2, hbad, fun Hb smb => ?_⟩
    have hDb := smb _ _ hDa
    refine ⟨_, hDb, small1000 (by rw [List.length_map, List.length_replicate]; omega), ?_, fun y o h h1 h2 => ?_, ?_⟩
    · obtain ⟨y1, gs, y2, y3, y4, y5⟩ := hTa.same smb
      exact ⟨y1, gs, y2, by rw [upd_ne (Ne.symm nD.1)]; exact y3, by rw [upd_ne (Ne.symm nD.2)]; exact y4, y5⟩
    · rw [upd_ne (ne_of_none h hDl)]
      exact smb _ _ (ka y o h h1 h2)
    · rw [upd_same]
      simp [List.replicate_succ']
  · rintro H' ⟨hT', k', hD⟩
    refine ⟨Dl, _, rfl, SqL.of hD, ?_⟩
    exact q H' 
end
end K19

set_option Elab.async false
set_option linter.all false
set_option maxRecDepth 100000
set_option maxHeartbeats 8000000
namespace K19
open PySem PySem.Spec PyProof.Rows L2 Dt
/-- a method as the class has it -/
structure MethAt (K : PySem.W.Frag) (C : Addr) (m qual : Str) (st : Stmt) (ps ks : List Str) (g : {α : Type} → List α → List α) : Prop where
  ex : ∃ f fd, Meth K C m f ∧ Fun K m qual st f fd ∧ Binds K fd ps [] ∧ KwB fd ps ks g
theorem idL_rel {zs : List V} {ws : List Value} (h : Vals zs ws) : Vals (idL zs) (idL ws) := h
theorem revL_rel {zs : List V} {ws : List Value} (h : Vals zs ws) : Vals (revL zs) (revL ws) := by
  unfold revL
  induction h with
  | nil => exact .nil
  | cons r _ ih =>
    rw [List.reverse_cons, List.reverse_cons]
    exact ih.append (.cons r .nil)
section
variable {K : PySem.W.Frag} {h : Heap} {mg : Str → Option Value}
theorem defAt_of (X : K.In h) (G : h.Ns mainGlobals mg) {x : Str} {st : Stmt} {ps : List Str} {f : Addr} {oc kV doc pm cdv ct : Value} {od an : Option Addr} {osl : Array (Option Value)}
    (hb : ∀ (kV doc pm : Value) (an : Option Addr) (cdv ct : Value) (us : List Value), us.length = ps.length → bindArgs (PySem.W.fnOf x x (defArgs st) (defBody st) (defScope st) .none kV doc pm an cdv ct) ⟨us, []⟩ = pure (ps.zip us))
    (a : PySem.W.nsIn K mainGlobals x = some (some (.ref f))) (l : K.lookup f = some ⟨oc, od, .func (PySem.W.fnOf x x (defArgs st) (defBody st) (defScope st) .none kV doc pm an cdv ct), osl⟩) (c : PySem.W.codeIn K cdv x = true) (k : PySem.W.keepIn K (.ref f) = true) : DefAt K mg x st ps :=
  ⟨f, _, fun_mk l c k, PySem.W.mg_of X G a, (fun_mk l c k).binds hb⟩
theorem methAt_of {C : Addr} {m qual : Str} {st : Stmt} {ps ks : List Str} {g : {α : Type} → List α → List α} {f : Addr} {oc kV doc pm cdv ct : Value} {od an : Option Addr} {osl : Array (Option Value)}
    (hb : ∀ (kV doc pm : Value) (an : Option Addr) (cdv ct : Value) (us : List Value), us.length = ps.length → bindArgs (PySem.W.fnOf m qual (defArgs st) (defBody st) (defScope st) .none kV doc pm an cdv ct) ⟨us, []⟩ = pure (ps.zip us))
    (hk : ∀ (kV doc pm : Value) (an : Option Addr) (cdv ct : Value) (s : Shared) (u : Value) (ws : List Value), ws.length = ks.length → BindsTo s (PySem.W.fnOf m qual (defArgs st) (defBody st) (defScope st) .none kV doc pm an cdv ct) ⟨[u], ks.zip ws⟩ (ps.zip (u :: g ws)))
    (hr : ∀ {zs : List V} {ws : List Value}, Vals zs ws → Vals (g zs) (g ws))
    (a : PySem.W.findIn K (.ref C) m = some (some (.ref f))) (i : PySem.W.isFn K (.ref f) = true) (l : K.lookup f = some ⟨oc, od, .func (PySem.W.fnOf m qual (defArgs st) (defBody st) (defScope st) .none kV doc pm an cdv ct), osl⟩) (c : PySem.W.codeIn K cdv qual = true) (k : PySem.W.keepIn K (.ref f) = true) : MethAt K C m qual st ps ks g :=
  ⟨f, _, ⟨a, i, k⟩, fun_mk l c k, (fun_mk l c k).binds hb, ⟨fun s u ws hw => hk _ _ _ _ _ _ s u ws hw, hr⟩⟩
end
theorem da_is_integer {K : PySem.W.Frag} {h : Heap} {mg : Str → Option Value} (X : K.In h) (G : h.Ns mainGlobals mg) {f : Addr} {oc kV doc pm cdv ct : Value} {od an : Option Addr} {osl : Array (Option Value)}
    (a : PySem.W.nsIn K mainGlobals "is_integer" = some (some (.ref f))) (l : K.lookup f = some ⟨oc, od, .func (PySem.W.fnOf "is_integer" "is_integer" (defArgs s_is_integer) (defBody s_is_integer) (defScope s_is_integer) .none kV doc pm an cdv ct), osl⟩) (c : PySem.W.codeIn K cdv "is_integer" = true) (k : PySem.W.keepIn K (.ref f) = true) : DefAt K mg "is_integer" s_is_integer ["thing"] :=
  defAt_of X G (fun _ _ _ _ _ _ us hl => match us, hl with | [_], _ => rfl) a l c k
theorem da_is_number {K : PySem.W.Frag} {h : Heap} {mg : Str → Option Value} (X : K.In h) (G : h.Ns mainGlobals mg) {f : Addr} {oc kV doc pm cdv ct : Value} {od an : Option Addr} {osl : Array (Option Value)}
    (a : PySem.W.nsIn K mainGlobals "is_number" = some (some (.ref f))) (l : K.lookup f = some ⟨oc, od, .func (PySem.W.fnOf "is_number" "is_number" (defArgs s_is_number) (defBody s_is_number) (defScope s_is_number) .none kV doc pm an cdv ct), osl⟩) (c : PySem.W.codeIn K cdv "is_number" = true) (k : PySem.W.keepIn K (.ref f) = true) : DefAt K mg "is_number" s_is_number ["thing"] :=
  defAt_of X G (fun _ _ _ _ _ _ us hl => match us, hl with | [_], _ => rfl) a l c k
theorem da_is_below {K : PySem.W.Frag} {h : Heap} {mg : Str → Option Value} (X : K.In h) (G : h.Ns mainGlobals mg) {f : Addr} {oc kV doc pm cdv ct : Value} {od an : Option Addr} {osl : Array (Option Value)}
    (a : PySem.W.nsIn K mainGlobals "is_below" = some (some (.ref f))) (l : K.lookup f = some ⟨oc, od, .func (PySem.W.fnOf "is_below" "is_below" (defArgs s_is_below) (defBody s_is_below) (defScope s_is_below) .none kV doc pm an cdv ct), osl⟩) (c : PySem.W.codeIn K cdv "is_below" = true) (k : PySem.W.keepIn K (.ref f) = true) : DefAt K mg "is_below" s_is_below ["thing", "bound"] :=
  defAt_of X G (fun _ _ _ _ _ _ us hl => match us, hl with | [_, _], _ => rfl) a l c k
theorem da_need {K : PySem.W.Frag} {h : Heap} {mg : Str → Option Value} (X : K.In h) (G : h.Ns mainGlobals mg) {f : Addr} {oc kV doc pm cdv ct : Value} {od an : Option Addr} {osl : Array (Option Value)}
    (a : PySem.W.nsIn K mainGlobals "need" = some (some (.ref f))) (l : K.lookup f = some ⟨oc, od, .func (PySem.W.fnOf "need" "need" (defArgs s_need) (defBody s_need) (defScope s_need) .none kV doc pm an cdv ct), osl⟩) (c : PySem.W.codeIn K cdv "need" = true) (k : PySem.W.keepIn K (.ref f) = true) : DefAt K mg "need" s_need ["fits", "word"] :=
  defAt_of X G (fun _ _ _ _ _ _ us hl => match us, hl with | [_, _], _ => rfl) a l c k
theorem da_is_shape {K : PySem.W.Frag} {h : Heap} {mg : Str → Option Value} (X : K.In h) (G : h.Ns mainGlobals mg) {f : Addr} {oc kV doc pm cdv ct : Value} {od an : Option Addr} {osl : Array (Option Value)}
    (a : PySem.W.nsIn K mainGlobals "is_shape" = some (some (.ref f))) (l : K.lookup f = some ⟨oc, od, .func (PySem.W.fnOf "is_shape" "is_shape" (defArgs s_is_shape) (defBody s_is_shape) (defScope s_is_shape) .none kV doc pm an cdv ct), osl⟩) (c : PySem.W.codeIn K cdv "is_shape" = true) (k : PySem.W.keepIn K (.ref f) = true) : DefAt K mg "is_shape" s_is_shape ["thing"] :=
  defAt_of X G (fun _ _ _ _ _ _ us hl => match us, hl with | [_], _ => rfl) a l c k
theorem da_has_forks_of {K : PySem.W.Frag} {h : Heap} {mg : Str → Option Value} (X : K.In h) (G : h.Ns mainGlobals mg) {f : Addr} {oc kV doc pm cdv ct : Value} {od an : Option Addr} {osl : Array (Option Value)}
    (a : PySem.W.nsIn K mainGlobals "has_forks_of" = some (some (.ref f))) (l : K.lookup f = some ⟨oc, od, .func (PySem.W.fnOf "has_forks_of" "has_forks_of" (defArgs s_has_forks_of) (defBody s_has_forks_of) (defScope s_has_forks_of) .none kV doc pm an cdv ct), osl⟩) (c : PySem.W.codeIn K cdv "has_forks_of" = true) (k : PySem.W.keepIn K (.ref f) = true) : DefAt K mg "has_forks_of" s_has_forks_of ["thing", "least"] :=
  defAt_of X G (fun _ _ _ _ _ _ us hl => match us, hl with | [_, _], _ => rfl) a l c k
theorem da_need_shape {K : PySem.W.Frag} {h : Heap} {mg : Str → Option Value} (X : K.In h) (G : h.Ns mainGlobals mg) {f : Addr} {oc kV doc pm cdv ct : Value} {od an : Option Addr} {osl : Array (Option Value)}
    (a : PySem.W.nsIn K mainGlobals "need_shape" = some (some (.ref f))) (l : K.lookup f = some ⟨oc, od, .func (PySem.W.fnOf "need_shape" "need_shape" (defArgs s_need_shape) (defBody s_need_shape) (defScope s_need_shape) .none kV doc pm an cdv ct), osl⟩) (c : PySem.W.codeIn K cdv "need_shape" = true) (k : PySem.W.keepIn K (.ref f) = true) : DefAt K mg "need_shape" s_need_shape ["form", "word"] :=
  defAt_of X G (fun _ _ _ _ _ _ us hl => match us, hl with | [_, _], _ => rfl) a l c k
theorem da_need_node {K : PySem.W.Frag} {h : Heap} {mg : Str → Option Value} (X : K.In h) (G : h.Ns mainGlobals mg) {f : Addr} {oc kV doc pm cdv ct : Value} {od an : Option Addr} {osl : Array (Option Value)}
    (a : PySem.W.nsIn K mainGlobals "need_node" = some (some (.ref f))) (l : K.lookup f = some ⟨oc, od, .func (PySem.W.fnOf "need_node" "need_node" (defArgs s_need_node) (defBody s_need_node) (defScope s_need_node) .none kV doc pm an cdv ct), osl⟩) (c : PySem.W.codeIn K cdv "need_node" = true) (k : PySem.W.keepIn K (.ref f) = true) : DefAt K mg "need_node" s_need_node ["tree", "node", "word"] :=
  defAt_of X G (fun _ _ _ _ _ _ us hl => match us, hl with | [_, _, _], _ => rfl) a l c k
theorem da_need_queue {K : PySem.W.Frag} {h : Heap} {mg : Str → Option Value} (X : K.In h) (G : h.Ns mainGlobals mg) {f : Addr} {oc kV doc pm cdv ct : Value} {od an : Option Addr} {osl : Array (Option Value)}
    (a : PySem.W.nsIn K mainGlobals "need_queue" = some (some (.ref f))) (l : K.lookup f = some ⟨oc, od, .func (PySem.W.fnOf "need_queue" "need_queue" (defArgs s_need_queue) (defBody s_need_queue) (defScope s_need_queue) .none kV doc pm an cdv ct), osl⟩) (c : PySem.W.codeIn K cdv "need_queue" = true) (k : PySem.W.keepIn K (.ref f) = true) : DefAt K mg "need_queue" s_need_queue ["tree", "queue", "word"] :=
  defAt_of X G (fun _ _ _ _ _ _ us hl => match us, hl with | [_, _, _], _ => rfl) a l c k
theorem da_is_within {K : PySem.W.Frag} {h : Heap} {mg : Str → Option Value} (X : K.In h) (G : h.Ns mainGlobals mg) {f : Addr} {oc kV doc pm cdv ct : Value} {od an : Option Addr} {osl : Array (Option Value)}
    (a : PySem.W.nsIn K mainGlobals "is_within" = some (some (.ref f))) (l : K.lookup f = some ⟨oc, od, .func (PySem.W.fnOf "is_within" "is_within" (defArgs s_is_within) (defBody s_is_within) (defScope s_is_within) .none kV doc pm an cdv ct), osl⟩) (c : PySem.W.codeIn K cdv "is_within" = true) (k : PySem.W.keepIn K (.ref f) = true) : DefAt K mg "is_within" s_is_within ["tree", "node", "top"] :=
  defAt_of X G (fun _ _ _ _ _ _ us hl => match us, hl with | [_, _, _], _ => rfl) a l c k
theorem da_meet_in {K : PySem.W.Frag} {h : Heap} {mg : Str → Option Value} (X : K.In h) (G : h.Ns mainGlobals mg) {f : Addr} {oc kV doc pm cdv ct : Value} {od an : Option Addr} {osl : Array (Option Value)}
    (a : PySem.W.nsIn K mainGlobals "meet_in" = some (some (.ref f))) (l : K.lookup f = some ⟨oc, od, .func (PySem.W.fnOf "meet_in" "meet_in" (defArgs s_meet_in) (defBody s_meet_in) (defScope s_meet_in) .none kV doc pm an cdv ct), osl⟩) (c : PySem.W.codeIn K cdv "meet_in" = true) (k : PySem.W.keepIn K (.ref f) = true) : DefAt K mg "meet_in" s_meet_in ["tree", "one", "other"] :=
  defAt_of X G (fun _ _ _ _ _ _ us hl => match us, hl with | [_, _, _], _ => rfl) a l c k
theorem da_side_toward {K : PySem.W.Frag} {h : Heap} {mg : Str → Option Value} (X : K.In h) (G : h.Ns mainGlobals mg) {f : Addr} {oc kV doc pm cdv ct : Value} {od an : Option Addr} {osl : Array (Option Value)}
    (a : PySem.W.nsIn K mainGlobals "side_toward" = some (some (.ref f))) (l : K.lookup f = some ⟨oc, od, .func (PySem.W.fnOf "side_toward" "side_toward" (defArgs s_side_toward) (defBody s_side_toward) (defScope s_side_toward) .none kV doc pm an cdv ct), osl⟩) (c : PySem.W.codeIn K cdv "side_toward" = true) (k : PySem.W.keepIn K (.ref f) = true) : DefAt K mg "side_toward" s_side_toward ["tree", "node", "down"] :=
  defAt_of X G (fun _ _ _ _ _ _ us hl => match us, hl with | [_, _, _], _ => rfl) a l c k
theorem da_law_tape {K : PySem.W.Frag} {h : Heap} {mg : Str → Option Value} (X : K.In h) (G : h.Ns mainGlobals mg) {f : Addr} {oc kV doc pm cdv ct : Value} {od an : Option Addr} {osl : Array (Option Value)}
    (a : PySem.W.nsIn K mainGlobals "_law_tape" = some (some (.ref f))) (l : K.lookup f = some ⟨oc, od, .func (PySem.W.fnOf "_law_tape" "_law_tape" (defArgs s_law_tape) (defBody s_law_tape) (defScope s_law_tape) .none kV doc pm an cdv ct), osl⟩) (c : PySem.W.codeIn K cdv "_law_tape" = true) (k : PySem.W.keepIn K (.ref f) = true) : DefAt K mg "_law_tape" s_law_tape ["script"] :=
  defAt_of X G (fun _ _ _ _ _ _ us hl => match us, hl with | [_], _ => rfl) a l c k
theorem da_law_pick {K : PySem.W.Frag} {h : Heap} {mg : Str → Option Value} (X : K.In h) (G : h.Ns mainGlobals mg) {f : Addr} {oc kV doc pm cdv ct : Value} {od an : Option Addr} {osl : Array (Option Value)}
    (a : PySem.W.nsIn K mainGlobals "_law_pick" = some (some (.ref f))) (l : K.lookup f = some ⟨oc, od, .func (PySem.W.fnOf "_law_pick" "_law_pick" (defArgs s_law_pick) (defBody s_law_pick) (defScope s_law_pick) .none kV doc pm an cdv ct), osl⟩) (c : PySem.W.codeIn K cdv "_law_pick" = true) (k : PySem.W.keepIn K (.ref f) = true) : DefAt K mg "_law_pick" s_law_pick ["tape", "span"] :=
  defAt_of X G (fun _ _ _ _ _ _ us hl => match us, hl with | [_, _], _ => rfl) a l c k
theorem da_law_shut {K : PySem.W.Frag} {h : Heap} {mg : Str → Option Value} (X : K.In h) (G : h.Ns mainGlobals mg) {f : Addr} {oc kV doc pm cdv ct : Value} {od an : Option Addr} {osl : Array (Option Value)}
    (a : PySem.W.nsIn K mainGlobals "_law_shut" = some (some (.ref f))) (l : K.lookup f = some ⟨oc, od, .func (PySem.W.fnOf "_law_shut" "_law_shut" (defArgs s_law_shut) (defBody s_law_shut) (defScope s_law_shut) .none kV doc pm an cdv ct), osl⟩) (c : PySem.W.codeIn K cdv "_law_shut" = true) (k : PySem.W.keepIn K (.ref f) = true) : DefAt K mg "_law_shut" s_law_shut ["rows"] :=
  defAt_of X G (fun _ _ _ _ _ _ us hl => match us, hl with | [_], _ => rfl) a l c k
theorem da_law_made {K : PySem.W.Frag} {h : Heap} {mg : Str → Option Value} (X : K.In h) (G : h.Ns mainGlobals mg) {f : Addr} {oc kV doc pm cdv ct : Value} {od an : Option Addr} {osl : Array (Option Value)}
    (a : PySem.W.nsIn K mainGlobals "_law_made" = some (some (.ref f))) (l : K.lookup f = some ⟨oc, od, .func (PySem.W.fnOf "_law_made" "_law_made" (defArgs s_law_made) (defBody s_law_made) (defScope s_law_made) .none kV doc pm an cdv ct), osl⟩) (c : PySem.W.codeIn K cdv "_law_made" = true) (k : PySem.W.keepIn K (.ref f) = true) : DefAt K mg "_law_made" s_law_made ["tape", "most", "room"] :=
  defAt_of X G (fun _ _ _ _ _ _ us hl => match us, hl with | [_, _, _], _ => rfl) a l c k
theorem da_law_places {K : PySem.W.Frag} {h : Heap} {mg : Str → Option Value} (X : K.In h) (G : h.Ns mainGlobals mg) {f : Addr} {oc kV doc pm cdv ct : Value} {od an : Option Addr} {osl : Array (Option Value)}
    (a : PySem.W.nsIn K mainGlobals "_law_places" = some (some (.ref f))) (l : K.lookup f = some ⟨oc, od, .func (PySem.W.fnOf "_law_places" "_law_places" (defArgs s_law_places) (defBody s_law_places) (defScope s_law_places) .none kV doc pm an cdv ct), osl⟩) (c : PySem.W.codeIn K cdv "_law_places" = true) (k : PySem.W.keepIn K (.ref f) = true) : DefAt K mg "_law_places" s_law_places ["shape"] :=
  defAt_of X G (fun _ _ _ _ _ _ us hl => match us, hl with | [_], _ => rfl) a l c k
theorem da_law_leaves {K : PySem.W.Frag} {h : Heap} {mg : Str → Option Value} (X : K.In h) (G : h.Ns mainGlobals mg) {f : Addr} {oc kV doc pm cdv ct : Value} {od an : Option Addr} {osl : Array (Option Value)}
    (a : PySem.W.nsIn K mainGlobals "_law_leaves" = some (some (.ref f))) (l : K.lookup f = some ⟨oc, od, .func (PySem.W.fnOf "_law_leaves" "_law_leaves" (defArgs s_law_leaves) (defBody s_law_leaves) (defScope s_law_leaves) .none kV doc pm an cdv ct), osl⟩) (c : PySem.W.codeIn K cdv "_law_leaves" = true) (k : PySem.W.keepIn K (.ref f) = true) : DefAt K mg "_law_leaves" s_law_leaves ["places"] :=
  defAt_of X G (fun _ _ _ _ _ _ us hl => match us, hl with | [_], _ => rfl) a l c k
theorem da_law_bough {K : PySem.W.Frag} {h : Heap} {mg : Str → Option Value} (X : K.In h) (G : h.Ns mainGlobals mg) {f : Addr} {oc kV doc pm cdv ct : Value} {od an : Option Addr} {osl : Array (Option Value)}
    (a : PySem.W.nsIn K mainGlobals "_law_bough" = some (some (.ref f))) (l : K.lookup f = some ⟨oc, od, .func (PySem.W.fnOf "_law_bough" "_law_bough" (defArgs s_law_bough) (defBody s_law_bough) (defScope s_law_bough) .none kV doc pm an cdv ct), osl⟩) (c : PySem.W.codeIn K cdv "_law_bough" = true) (k : PySem.W.keepIn K (.ref f) = true) : DefAt K mg "_law_bough" s_law_bough ["shape", "place"] :=
  defAt_of X G (fun _ _ _ _ _ _ us hl => match us, hl with | [_, _], _ => rfl) a l c k
theorem da_law_same {K : PySem.W.Frag} {h : Heap} {mg : Str → Option Value} (X : K.In h) (G : h.Ns mainGlobals mg) {f : Addr} {oc kV doc pm cdv ct : Value} {od an : Option Addr} {osl : Array (Option Value)}
    (a : PySem.W.nsIn K mainGlobals "_law_same" = some (some (.ref f))) (l : K.lookup f = some ⟨oc, od, .func (PySem.W.fnOf "_law_same" "_law_same" (defArgs s_law_same) (defBody s_law_same) (defScope s_law_same) .none kV doc pm an cdv ct), osl⟩) (c : PySem.W.codeIn K cdv "_law_same" = true) (k : PySem.W.keepIn K (.ref f) = true) : DefAt K mg "_law_same" s_law_same ["mine", "due"] :=
  defAt_of X G (fun _ _ _ _ _ _ us hl => match us, hl with | [_, _], _ => rfl) a l c k
theorem da_law_due {K : PySem.W.Frag} {h : Heap} {mg : Str → Option Value} (X : K.In h) (G : h.Ns mainGlobals mg) {f : Addr} {oc kV doc pm cdv ct : Value} {od an : Option Addr} {osl : Array (Option Value)}
    (a : PySem.W.nsIn K mainGlobals "_law_due" = some (some (.ref f))) (l : K.lookup f = some ⟨oc, od, .func (PySem.W.fnOf "_law_due" "_law_due" (defArgs s_law_due) (defBody s_law_due) (defScope s_law_due) .none kV doc pm an cdv ct), osl⟩) (c : PySem.W.codeIn K cdv "_law_due" = true) (k : PySem.W.keepIn K (.ref f) = true) : DefAt K mg "_law_due" s_law_due ["shape", "places", "leaves", "way", "spot"] :=
  defAt_of X G (fun _ _ _ _ _ _ us hl => match us, hl with | [_, _, _, _, _], _ => rfl) a l c k
theorem da_law_ask {K : PySem.W.Frag} {h : Heap} {mg : Str → Option Value} (X : K.In h) (G : h.Ns mainGlobals mg) {f : Addr} {oc kV doc pm cdv ct : Value} {od an : Option Addr} {osl : Array (Option Value)}
    (a : PySem.W.nsIn K mainGlobals "_law_ask" = some (some (.ref f))) (l : K.lookup f = some ⟨oc, od, .func (PySem.W.fnOf "_law_ask" "_law_ask" (defArgs s_law_ask) (defBody s_law_ask) (defScope s_law_ask) .none kV doc pm an cdv ct), osl⟩) (c : PySem.W.codeIn K cdv "_law_ask" = true) (k : PySem.W.keepIn K (.ref f) = true) : DefAt K mg "_law_ask" s_law_ask ["tree", "way", "number", "named"] :=
  defAt_of X G (fun _ _ _ _ _ _ us hl => match us, hl with | [_, _, _, _], _ => rfl) a l c k
theorem da_law_ask_two {K : PySem.W.Frag} {h : Heap} {mg : Str → Option Value} (X : K.In h) (G : h.Ns mainGlobals mg) {f : Addr} {oc kV doc pm cdv ct : Value} {od an : Option Addr} {osl : Array (Option Value)}
    (a : PySem.W.nsIn K mainGlobals "_law_ask_two" = some (some (.ref f))) (l : K.lookup f = some ⟨oc, od, .func (PySem.W.fnOf "_law_ask_two" "_law_ask_two" (defArgs s_law_ask_two) (defBody s_law_ask_two) (defScope s_law_ask_two) .none kV doc pm an cdv ct), osl⟩) (c : PySem.W.codeIn K cdv "_law_ask_two" = true) (k : PySem.W.keepIn K (.ref f) = true) : DefAt K mg "_law_ask_two" s_law_ask_two ["tree", "way", "first", "second", "named"] :=
  defAt_of X G (fun _ _ _ _ _ _ us hl => match us, hl with | [_, _, _, _, _], _ => rfl) a l c k
theorem da_law_told {K : PySem.W.Frag} {h : Heap} {mg : Str → Option Value} (X : K.In h) (G : h.Ns mainGlobals mg) {f : Addr} {oc kV doc pm cdv ct : Value} {od an : Option Addr} {osl : Array (Option Value)}
    (a : PySem.W.nsIn K mainGlobals "_law_told" = some (some (.ref f))) (l : K.lookup f = some ⟨oc, od, .func (PySem.W.fnOf "_law_told" "_law_told" (defArgs s_law_told) (defBody s_law_told) (defScope s_law_told) .none kV doc pm an cdv ct), osl⟩) (c : PySem.W.codeIn K cdv "_law_told" = true) (k : PySem.W.keepIn K (.ref f) = true) : DefAt K mg "_law_told" s_law_told ["tree", "way", "first", "second", "named"] :=
  defAt_of X G (fun _ _ _ _ _ _ us hl => match us, hl with | [_, _, _, _, _], _ => rfl) a l c k
theorem da_law_node_right {K : PySem.W.Frag} {h : Heap} {mg : Str → Option Value} (X : K.In h) (G : h.Ns mainGlobals mg) {f : Addr} {oc kV doc pm cdv ct : Value} {od an : Option Addr} {osl : Array (Option Value)}
    (a : PySem.W.nsIn K mainGlobals "_law_node_right" = some (some (.ref f))) (l : K.lookup f = some ⟨oc, od, .func (PySem.W.fnOf "_law_node_right" "_law_node_right" (defArgs s_law_node_right) (defBody s_law_node_right) (defScope s_law_node_right) .none kV doc pm an cdv ct), osl⟩) (c : PySem.W.codeIn K cdv "_law_node_right" = true) (k : PySem.W.keepIn K (.ref f) = true) : DefAt K mg "_law_node_right" s_law_node_right ["tree", "shape", "places", "leaves", "spot", "named"] :=
  defAt_of X G (fun _ _ _ _ _ _ us hl => match us, hl with | [_, _, _, _, _, _], _ => rfl) a l c k
theorem da_law_queue_right {K : PySem.W.Frag} {h : Heap} {mg : Str → Option Value} (X : K.In h) (G : h.Ns mainGlobals mg) {f : Addr} {oc kV doc pm cdv ct : Value} {od an : Option Addr} {osl : Array (Option Value)}
    (a : PySem.W.nsIn K mainGlobals "_law_queue_right" = some (some (.ref f))) (l : K.lookup f = some ⟨oc, od, .func (PySem.W.fnOf "_law_queue_right" "_law_queue_right" (defArgs s_law_queue_right) (defBody s_law_queue_right) (defScope s_law_queue_right) .none kV doc pm an cdv ct), osl⟩) (c : PySem.W.codeIn K cdv "_law_queue_right" = true) (k : PySem.W.keepIn K (.ref f) = true) : DefAt K mg "_law_queue_right" s_law_queue_right ["tree", "places", "leaves", "spot", "named"] :=
  defAt_of X G (fun _ _ _ _ _ _ us hl => match us, hl with | [_, _, _, _, _], _ => rfl) a l c k
theorem da_law_pair_right {K : PySem.W.Frag} {h : Heap} {mg : Str → Option Value} (X : K.In h) (G : h.Ns mainGlobals mg) {f : Addr} {oc kV doc pm cdv ct : Value} {od an : Option Addr} {osl : Array (Option Value)}
    (a : PySem.W.nsIn K mainGlobals "_law_pair_right" = some (some (.ref f))) (l : K.lookup f = some ⟨oc, od, .func (PySem.W.fnOf "_law_pair_right" "_law_pair_right" (defArgs s_law_pair_right) (defBody s_law_pair_right) (defScope s_law_pair_right) .none kV doc pm an cdv ct), osl⟩) (c : PySem.W.codeIn K cdv "_law_pair_right" = true) (k : PySem.W.keepIn K (.ref f) = true) : DefAt K mg "_law_pair_right" s_law_pair_right ["tree", "places", "first", "second", "named"] :=
  defAt_of X G (fun _ _ _ _ _ _ us hl => match us, hl with | [_, _, _, _, _], _ => rfl) a l c k
theorem da_law_odd {K : PySem.W.Frag} {h : Heap} {mg : Str → Option Value} (X : K.In h) (G : h.Ns mainGlobals mg) {f : Addr} {oc kV doc pm cdv ct : Value} {od an : Option Addr} {osl : Array (Option Value)}
    (a : PySem.W.nsIn K mainGlobals "_law_odd" = some (some (.ref f))) (l : K.lookup f = some ⟨oc, od, .func (PySem.W.fnOf "_law_odd" "_law_odd" (defArgs s_law_odd) (defBody s_law_odd) (defScope s_law_odd) .none kV doc pm an cdv ct), osl⟩) (c : PySem.W.codeIn K cdv "_law_odd" = true) (k : PySem.W.keepIn K (.ref f) = true) : DefAt K mg "_law_odd" s_law_odd ["tape", "many"] :=
  defAt_of X G (fun _ _ _ _ _ _ us hl => match us, hl with | [_, _], _ => rfl) a l c k
theorem da_law_refuses {K : PySem.W.Frag} {h : Heap} {mg : Str → Option Value} (X : K.In h) (G : h.Ns mainGlobals mg) {f : Addr} {oc kV doc pm cdv ct : Value} {od an : Option Addr} {osl : Array (Option Value)}
    (a : PySem.W.nsIn K mainGlobals "_law_refuses" = some (some (.ref f))) (l : K.lookup f = some ⟨oc, od, .func (PySem.W.fnOf "_law_refuses" "_law_refuses" (defArgs s_law_refuses) (defBody s_law_refuses) (defScope s_law_refuses) .none kV doc pm an cdv ct), osl⟩) (c : PySem.W.codeIn K cdv "_law_refuses" = true) (k : PySem.W.keepIn K (.ref f) = true) : DefAt K mg "_law_refuses" s_law_refuses ["tape", "tree", "places", "leaves", "named"] :=
  defAt_of X G (fun _ _ _ _ _ _ us hl => match us, hl with | [_, _, _, _, _], _ => rfl) a l c k
theorem da_law_unmade {K : PySem.W.Frag} {h : Heap} {mg : Str → Option Value} (X : K.In h) (G : h.Ns mainGlobals mg) {f : Addr} {oc kV doc pm cdv ct : Value} {od an : Option Addr} {osl : Array (Option Value)}
    (a : PySem.W.nsIn K mainGlobals "_law_unmade" = some (some (.ref f))) (l : K.lookup f = some ⟨oc, od, .func (PySem.W.fnOf "_law_unmade" "_law_unmade" (defArgs s_law_unmade) (defBody s_law_unmade) (defScope s_law_unmade) .none kV doc pm an cdv ct), osl⟩) (c : PySem.W.codeIn K cdv "_law_unmade" = true) (k : PySem.W.keepIn K (.ref f) = true) : DefAt K mg "_law_unmade" s_law_unmade ["item"] :=
  defAt_of X G (fun _ _ _ _ _ _ us hl => match us, hl with | [_], _ => rfl) a l c k
theorem da_law_tree_right {K : PySem.W.Frag} {h : Heap} {mg : Str → Option Value} (X : K.In h) (G : h.Ns mainGlobals mg) {f : Addr} {oc kV doc pm cdv ct : Value} {od an : Option Addr} {osl : Array (Option Value)}
    (a : PySem.W.nsIn K mainGlobals "_law_tree_right" = some (some (.ref f))) (l : K.lookup f = some ⟨oc, od, .func (PySem.W.fnOf "_law_tree_right" "_law_tree_right" (defArgs s_law_tree_right) (defBody s_law_tree_right) (defScope s_law_tree_right) .none kV doc pm an cdv ct), osl⟩) (c : PySem.W.codeIn K cdv "_law_tree_right" = true) (k : PySem.W.keepIn K (.ref f) = true) : DefAt K mg "_law_tree_right" s_law_tree_right ["tape", "tree", "shape", "named"] :=
  defAt_of X G (fun _ _ _ _ _ _ us hl => match us, hl with | [_, _, _, _], _ => rfl) a l c k
theorem ma_bough_of {K : PySem.W.Frag} {C : Addr} {f : Addr} {oc kV doc pm cdv ct : Value} {od an : Option Addr} {osl : Array (Option Value)}
    (a : PySem.W.findIn K (.ref C) "bough_of" = some (some (.ref f))) (i : PySem.W.isFn K (.ref f) = true) (l : K.lookup f = some ⟨oc, od, .func (PySem.W.fnOf "bough_of" "ShapeTree.bough_of" (defArgs s_ShapeTree_bough_of) (defBody s_ShapeTree_bough_of) (defScope s_ShapeTree_bough_of) .none kV doc pm an cdv ct), osl⟩) (c : PySem.W.codeIn K cdv "ShapeTree.bough_of" = true) (k : PySem.W.keepIn K (.ref f) = true) :
    MethAt K C "bough_of" "ShapeTree.bough_of" s_ShapeTree_bough_of ["self", "node"] ["node"] idL :=
  methAt_of (fun _ _ _ _ _ _ us hl => match us, hl with | [_, _], _ => rfl) (fun _ _ _ _ _ _ _ _ ws hl => match ws, hl with | [_], _ => .of_eq rfl) idL_rel a i l c k
theorem ma_parent_of {K : PySem.W.Frag} {C : Addr} {f : Addr} {oc kV doc pm cdv ct : Value} {od an : Option Addr} {osl : Array (Option Value)}
    (a : PySem.W.findIn K (.ref C) "parent_of" = some (some (.ref f))) (i : PySem.W.isFn K (.ref f) = true) (l : K.lookup f = some ⟨oc, od, .func (PySem.W.fnOf "parent_of" "ShapeTree.parent_of" (defArgs s_ShapeTree_parent_of) (defBody s_ShapeTree_parent_of) (defScope s_ShapeTree_parent_of) .none kV doc pm an cdv ct), osl⟩) (c : PySem.W.codeIn K cdv "ShapeTree.parent_of" = true) (k : PySem.W.keepIn K (.ref f) = true) :
    MethAt K C "parent_of" "ShapeTree.parent_of" s_ShapeTree_parent_of ["self", "node"] ["node"] idL :=
  methAt_of (fun _ _ _ _ _ _ us hl => match us, hl with | [_, _], _ => rfl) (fun _ _ _ _ _ _ _ _ ws hl => match ws, hl with | [_], _ => .of_eq rfl) idL_rel a i l c k
theorem ma_kids_of {K : PySem.W.Frag} {C : Addr} {f : Addr} {oc kV doc pm cdv ct : Value} {od an : Option Addr} {osl : Array (Option Value)}
    (a : PySem.W.findIn K (.ref C) "kids_of" = some (some (.ref f))) (i : PySem.W.isFn K (.ref f) = true) (l : K.lookup f = some ⟨oc, od, .func (PySem.W.fnOf "kids_of" "ShapeTree.kids_of" (defArgs s_ShapeTree_kids_of) (defBody s_ShapeTree_kids_of) (defScope s_ShapeTree_kids_of) .none kV doc pm an cdv ct), osl⟩) (c : PySem.W.codeIn K cdv "ShapeTree.kids_of" = true) (k : PySem.W.keepIn K (.ref f) = true) :
    MethAt K C "kids_of" "ShapeTree.kids_of" s_ShapeTree_kids_of ["self", "node"] ["node"] idL :=
  methAt_of (fun _ _ _ _ _ _ us hl => match us, hl with | [_, _], _ => rfl) (fun _ _ _ _ _ _ _ _ ws hl => match ws, hl with | [_], _ => .of_eq rfl) idL_rel a i l c k
theorem ma_depth_of {K : PySem.W.Frag} {C : Addr} {f : Addr} {oc kV doc pm cdv ct : Value} {od an : Option Addr} {osl : Array (Option Value)}
    (a : PySem.W.findIn K (.ref C) "depth_of" = some (some (.ref f))) (i : PySem.W.isFn K (.ref f) = true) (l : K.lookup f = some ⟨oc, od, .func (PySem.W.fnOf "depth_of" "ShapeTree.depth_of" (defArgs s_ShapeTree_depth_of) (defBody s_ShapeTree_depth_of) (defScope s_ShapeTree_depth_of) .none kV doc pm an cdv ct), osl⟩) (c : PySem.W.codeIn K cdv "ShapeTree.depth_of" = true) (k : PySem.W.keepIn K (.ref f) = true) :
    MethAt K C "depth_of" "ShapeTree.depth_of" s_ShapeTree_depth_of ["self", "node"] ["node"] idL :=
  methAt_of (fun _ _ _ _ _ _ us hl => match us, hl with | [_, _], _ => rfl) (fun _ _ _ _ _ _ _ _ ws hl => match ws, hl with | [_], _ => .of_eq rfl) idL_rel a i l c k
theorem ma_low_of {K : PySem.W.Frag} {C : Addr} {f : Addr} {oc kV doc pm cdv ct : Value} {od an : Option Addr} {osl : Array (Option Value)}
    (a : PySem.W.findIn K (.ref C) "low_of" = some (some (.ref f))) (i : PySem.W.isFn K (.ref f) = true) (l : K.lookup f = some ⟨oc, od, .func (PySem.W.fnOf "low_of" "ShapeTree.low_of" (defArgs s_ShapeTree_low_of) (defBody s_ShapeTree_low_of) (defScope s_ShapeTree_low_of) .none kV doc pm an cdv ct), osl⟩) (c : PySem.W.codeIn K cdv "ShapeTree.low_of" = true) (k : PySem.W.keepIn K (.ref f) = true) :
    MethAt K C "low_of" "ShapeTree.low_of" s_ShapeTree_low_of ["self", "node"] ["node"] idL :=
  methAt_of (fun _ _ _ _ _ _ us hl => match us, hl with | [_, _], _ => rfl) (fun _ _ _ _ _ _ _ _ ws hl => match ws, hl with | [_], _ => .of_eq rfl) idL_rel a i l c k
theorem ma_high_of {K : PySem.W.Frag} {C : Addr} {f : Addr} {oc kV doc pm cdv ct : Value} {od an : Option Addr} {osl : Array (Option Value)}
    (a : PySem.W.findIn K (.ref C) "high_of" = some (some (.ref f))) (i : PySem.W.isFn K (.ref f) = true) (l : K.lookup f = some ⟨oc, od, .func (PySem.W.fnOf "high_of" "ShapeTree.high_of" (defArgs s_ShapeTree_high_of) (defBody s_ShapeTree_high_of) (defScope s_ShapeTree_high_of) .none kV doc pm an cdv ct), osl⟩) (c : PySem.W.codeIn K cdv "ShapeTree.high_of" = true) (k : PySem.W.keepIn K (.ref f) = true) :
    MethAt K C "high_of" "ShapeTree.high_of" s_ShapeTree_high_of ["self", "node"] ["node"] idL :=
  methAt_of (fun _ _ _ _ _ _ us hl => match us, hl with | [_, _], _ => rfl) (fun _ _ _ _ _ _ _ _ ws hl => match ws, hl with | [_], _ => .of_eq rfl) idL_rel a i l c k
theorem ma_queue_at {K : PySem.W.Frag} {C : Addr} {f : Addr} {oc kV doc pm cdv ct : Value} {od an : Option Addr} {osl : Array (Option Value)}
    (a : PySem.W.findIn K (.ref C) "queue_at" = some (some (.ref f))) (i : PySem.W.isFn K (.ref f) = true) (l : K.lookup f = some ⟨oc, od, .func (PySem.W.fnOf "queue_at" "ShapeTree.queue_at" (defArgs s_ShapeTree_queue_at) (defBody s_ShapeTree_queue_at) (defScope s_ShapeTree_queue_at) .none kV doc pm an cdv ct), osl⟩) (c : PySem.W.codeIn K cdv "ShapeTree.queue_at" = true) (k : PySem.W.keepIn K (.ref f) = true) :
    MethAt K C "queue_at" "ShapeTree.queue_at" s_ShapeTree_queue_at ["self", "node"] ["node"] idL :=
  methAt_of (fun _ _ _ _ _ _ us hl => match us, hl with | [_, _], _ => rfl) (fun _ _ _ _ _ _ _ _ ws hl => match ws, hl with | [_], _ => .of_eq rfl) idL_rel a i l c k
theorem ma_node_of {K : PySem.W.Frag} {C : Addr} {f : Addr} {oc kV doc pm cdv ct : Value} {od an : Option Addr} {osl : Array (Option Value)}
    (a : PySem.W.findIn K (.ref C) "node_of" = some (some (.ref f))) (i : PySem.W.isFn K (.ref f) = true) (l : K.lookup f = some ⟨oc, od, .func (PySem.W.fnOf "node_of" "ShapeTree.node_of" (defArgs s_ShapeTree_node_of) (defBody s_ShapeTree_node_of) (defScope s_ShapeTree_node_of) .none kV doc pm an cdv ct), osl⟩) (c : PySem.W.codeIn K cdv "ShapeTree.node_of" = true) (k : PySem.W.keepIn K (.ref f) = true) :
    MethAt K C "node_of" "ShapeTree.node_of" s_ShapeTree_node_of ["self", "queue"] ["queue"] idL :=
  methAt_of (fun _ _ _ _ _ _ us hl => match us, hl with | [_, _], _ => rfl) (fun _ _ _ _ _ _ _ _ ws hl => match ws, hl with | [_], _ => .of_eq rfl) idL_rel a i l c k
theorem ma_path_of {K : PySem.W.Frag} {C : Addr} {f : Addr} {oc kV doc pm cdv ct : Value} {od an : Option Addr} {osl : Array (Option Value)}
    (a : PySem.W.findIn K (.ref C) "path_of" = some (some (.ref f))) (i : PySem.W.isFn K (.ref f) = true) (l : K.lookup f = some ⟨oc, od, .func (PySem.W.fnOf "path_of" "ShapeTree.path_of" (defArgs s_ShapeTree_path_of) (defBody s_ShapeTree_path_of) (defScope s_ShapeTree_path_of) .none kV doc pm an cdv ct), osl⟩) (c : PySem.W.codeIn K cdv "ShapeTree.path_of" = true) (k : PySem.W.keepIn K (.ref f) = true) :
    MethAt K C "path_of" "ShapeTree.path_of" s_ShapeTree_path_of ["self", "queue"] ["queue"] idL :=
  methAt_of (fun _ _ _ _ _ _ us hl => match us, hl with | [_, _], _ => rfl) (fun _ _ _ _ _ _ _ _ ws hl => match ws, hl with | [_], _ => .of_eq rfl) idL_rel a i l c k
theorem ma_meet_of {K : PySem.W.Frag} {C : Addr} {f : Addr} {oc kV doc pm cdv ct : Value} {od an : Option Addr} {osl : Array (Option Value)}
    (a : PySem.W.findIn K (.ref C) "meet_of" = some (some (.ref f))) (i : PySem.W.isFn K (.ref f) = true) (l : K.lookup f = some ⟨oc, od, .func (PySem.W.fnOf "meet_of" "ShapeTree.meet_of" (defArgs s_ShapeTree_meet_of) (defBody s_ShapeTree_meet_of) (defScope s_ShapeTree_meet_of) .none kV doc pm an cdv ct), osl⟩) (c : PySem.W.codeIn K cdv "ShapeTree.meet_of" = true) (k : PySem.W.keepIn K (.ref f) = true) :
    MethAt K C "meet_of" "ShapeTree.meet_of" s_ShapeTree_meet_of ["self", "one", "other"] ["other", "one"] revL :=
  methAt_of (fun _ _ _ _ _ _ us hl => match us, hl with | [_, _, _], _ => rfl) (fun _ _ _ _ _ _ _ _ ws hl => match ws, hl with | [_, _], _ => .of_eq rfl) revL_rel a i l c k
theorem ma_lies_in {K : PySem.W.Frag} {C : Addr} {f : Addr} {oc kV doc pm cdv ct : Value} {od an : Option Addr} {osl : Array (Option Value)}
    (a : PySem.W.findIn K (.ref C) "lies_in" = some (some (.ref f))) (i : PySem.W.isFn K (.ref f) = true) (l : K.lookup f = some ⟨oc, od, .func (PySem.W.fnOf "lies_in" "ShapeTree.lies_in" (defArgs s_ShapeTree_lies_in) (defBody s_ShapeTree_lies_in) (defScope s_ShapeTree_lies_in) .none kV doc pm an cdv ct), osl⟩) (c : PySem.W.codeIn K cdv "ShapeTree.lies_in" = true) (k : PySem.W.keepIn K (.ref f) = true) :
    MethAt K C "lies_in" "ShapeTree.lies_in" s_ShapeTree_lies_in ["self", "node", "top"] ["top", "node"] revL :=
  methAt_of (fun _ _ _ _ _ _ us hl => match us, hl with | [_, _, _], _ => rfl) (fun _ _ _ _ _ _ _ _ ws hl => match ws, hl with | [_, _], _ => .of_eq rfl) revL_rel a i l c k
theorem ma_toward {K : PySem.W.Frag} {C : Addr} {f : Addr} {oc kV doc pm cdv ct : Value} {od an : Option Addr} {osl : Array (Option Value)}
    (a : PySem.W.findIn K (.ref C) "toward" = some (some (.ref f))) (i : PySem.W.isFn K (.ref f) = true) (l : K.lookup f = some ⟨oc, od, .func (PySem.W.fnOf "toward" "ShapeTree.toward" (defArgs s_ShapeTree_toward) (defBody s_ShapeTree_toward) (defScope s_ShapeTree_toward) .none kV doc pm an cdv ct), osl⟩) (c : PySem.W.codeIn K cdv "ShapeTree.toward" = true) (k : PySem.W.keepIn K (.ref f) = true) :
    MethAt K C "toward" "ShapeTree.toward" s_ShapeTree_toward ["self", "node", "down"] ["down", "node"] revL :=
  methAt_of (fun _ _ _ _ _ _ us hl => match us, hl with | [_, _, _], _ => rfl) (fun _ _ _ _ _ _ _ _ ws hl => match ws, hl with | [_, _], _ => .of_eq rfl) revL_rel a i l c k
theorem bind_init {kV doc pm cdv ct : Value} {an : Option Addr} {K : PySem.W.Frag} : KBn K (PySem.W.fnOf "__init__" "ShapeTree.__init__" (defArgs s_ShapeTree_init) (defBody s_ShapeTree_init) (defScope s_ShapeTree_init) .none kV doc pm an cdv ct) ["self", "form"] 1 ["form"] (fun us ws => us ++ ws) (fun vs zs => vs ++ zs) :=
  ⟨fun s us ws _ h1 h2 => match us, ws, h1, h2 with | [_], [_], _, _ => .of_eq rfl, fun r1 r2 => r1.append r2⟩
theorem all_grow {P : Program} {w : World} {K : PySem.W.Frag} {mg : Str → Option Value} {base : Heap} {C f : Addr} {fd : FuncData} (F : Fun K "_grow" "ShapeTree._grow" s_ShapeTree_grow f fd) (b : Binds K fd ["self", "bough", "above", "side"] []) (T : Txt K mg) (TC : TCl K mg C f) :
    ∀ n, FnOk P w K mg base CX0 n f fd ["self", "bough", "above", "side"] (spGrow K C n)
  | 0 => by
    have no : ∀ vs H Q E, ¬ spGrow K C 0 vs H Q E := fun vs H Q E h => by
      obtain ⟨a, b, ab, dx, bs, T, u, p, fv, L, S, _, _, _, _, _, _, _, h, _⟩ := h
      exact absurd h (Nat.not_lt_zero _)
    exact ⟨fun vs H Q E h => absurd h (no vs H Q E), fun A outer s H args us vs Q E _ _ _ _ h => absurd h (no vs H Q E)⟩
  | n + 1 => ok_grow F b (all_grow F b T TC n) T TC
theorem law_ok {P : Program} {w : World} {K : PySem.W.Frag} {mg : Str → Option Value} {base : Heap} {C U fI fC fG fL : Addr} {fdC fdG fdL : FuncData} (N : NUT K mg U fI) (T : Txt K mg) (TC : TCl K mg C fG) (mk : ∃ t, mg "MOST_CHILDREN" = some (.int 6 t))
    (FG : Fun K "_grow" "ShapeTree._grow" s_ShapeTree_grow fG fdG) (bG : Binds K fdG ["self", "bough", "above", "side"] []) (M : Mk K C fC) (gC : mg "ShapeTree" = some (.ref C)) (FC : Fun K "__init__" "ShapeTree.__init__" s_ShapeTree_init fC fdC) (bC : Binds K fdC ["self", "form"] [])
    (kC : KBn K fdC ["self", "form"] 1 ["form"] (fun us ws => us ++ ws) (fun vs zs => vs ++ zs)) (MF : ∃ f fd, Meth K C "form_of" f ∧ Fun K "form_of" "ShapeTree.form_of" s_ShapeTree_form_of f fd ∧ Binds K fd ["self"] [])
    (D_is_integer : DefAt K mg "is_integer" s_is_integer ["thing"]) (D_is_number : DefAt K mg "is_number" s_is_number ["thing"]) (D_is_below : DefAt K mg "is_below" s_is_below ["thing", "bound"]) (D_need : DefAt K mg "need" s_need ["fits", "word"]) (D_is_shape : DefAt K mg "is_shape" s_is_shape ["thing"]) (D_has_forks_of : DefAt K mg "has_forks_of" s_has_forks_of ["thing", "least"]) (D_need_shape : DefAt K mg "need_shape" s_need_shape ["form", "word"]) (D_need_node : DefAt K mg "need_node" s_need_node ["tree", "node", "word"]) (D_need_queue : DefAt K mg "need_queue" s_need_queue ["tree", "queue", "word"]) (D_is_within : DefAt K mg "is_within" s_is_within ["tree", "node", "top"]) (D_meet_in : DefAt K mg "meet_in" s_meet_in ["tree", "one", "other"]) (D_side_toward : DefAt K mg "side_toward" s_side_toward ["tree", "node", "down"]) (D_law_tape : DefAt K mg "_law_tape" s_law_tape ["script"]) (D_law_pick : DefAt K mg "_law_pick" s_law_pick ["tape", "span"]) (D_law_shut : DefAt K mg "_law_shut" s_law_shut ["rows"]) (D_law_made : DefAt K mg "_law_made" s_law_made ["tape", "most", "room"]) (D_law_places : DefAt K mg "_law_places" s_law_places ["shape"]) (D_law_leaves : DefAt K mg "_law_leaves" s_law_leaves ["places"]) (D_law_bough : DefAt K mg "_law_bough" s_law_bough ["shape", "place"]) (D_law_same : DefAt K mg "_law_same" s_law_same ["mine", "due"]) (D_law_due : DefAt K mg "_law_due" s_law_due ["shape", "places", "leaves", "way", "spot"]) (D_law_ask : DefAt K mg "_law_ask" s_law_ask ["tree", "way", "number", "named"]) (D_law_ask_two : DefAt K mg "_law_ask_two" s_law_ask_two ["tree", "way", "first", "second", "named"]) (D_law_told : DefAt K mg "_law_told" s_law_told ["tree", "way", "first", "second", "named"]) (D_law_node_right : DefAt K mg "_law_node_right" s_law_node_right ["tree", "shape", "places", "leaves", "spot", "named"]) (D_law_queue_right : DefAt K mg "_law_queue_right" s_law_queue_right ["tree", "places", "leaves", "spot", "named"]) (D_law_pair_right : DefAt K mg "_law_pair_right" s_law_pair_right ["tree", "places", "first", "second", "named"]) (D_law_odd : DefAt K mg "_law_odd" s_law_odd ["tape", "many"]) (D_law_refuses : DefAt K mg "_law_refuses" s_law_refuses ["tape", "tree", "places", "leaves", "named"]) (D_law_unmade : DefAt K mg "_law_unmade" s_law_unmade ["item"]) (D_law_tree_right : DefAt K mg "_law_tree_right" s_law_tree_right ["tape", "tree", "shape", "named"])
    (M_bough_of : MethAt K C "bough_of" "ShapeTree.bough_of" s_ShapeTree_bough_of ["self", "node"] ["node"] idL) (M_parent_of : MethAt K C "parent_of" "ShapeTree.parent_of" s_ShapeTree_parent_of ["self", "node"] ["node"] idL) (M_kids_of : MethAt K C "kids_of" "ShapeTree.kids_of" s_ShapeTree_kids_of ["self", "node"] ["node"] idL) (M_depth_of : MethAt K C "depth_of" "ShapeTree.depth_of" s_ShapeTree_depth_of ["self", "node"] ["node"] idL) (M_low_of : MethAt K C "low_of" "ShapeTree.low_of" s_ShapeTree_low_of ["self", "node"] ["node"] idL) (M_high_of : MethAt K C "high_of" "ShapeTree.high_of" s_ShapeTree_high_of ["self", "node"] ["node"] idL) (M_queue_at : MethAt K C "queue_at" "ShapeTree.queue_at" s_ShapeTree_queue_at ["self", "node"] ["node"] idL) (M_node_of : MethAt K C "node_of" "ShapeTree.node_of" s_ShapeTree_node_of ["self", "queue"] ["queue"] idL) (M_path_of : MethAt K C "path_of" "ShapeTree.path_of" s_ShapeTree_path_of ["self", "queue"] ["queue"] idL) (M_meet_of : MethAt K C "meet_of" "ShapeTree.meet_of" s_ShapeTree_meet_of ["self", "one", "other"] ["other", "one"] revL) (M_lies_in : MethAt K C "lies_in" "ShapeTree.lies_in" s_ShapeTree_lies_in ["self", "node", "top"] ["top", "node"] revL) (M_toward : MethAt K C "toward" "ShapeTree.toward" s_ShapeTree_toward ["self", "node", "down"] ["down", "node"] revL)
    (FL : Fun K "law" "law" s_law fL fdL) : FnOk P w K mg base CX0 24 fL fdL ["script"] (spLaw K) := by
  have GI := ok_integer (P := P) (w := w) (base := base) D_is_integer T
  have GNm := ok_number D_is_number GI
  have GB := ok_below D_is_below GNm
  have GN := ok_need (P := P) (w := w) (base := base) D_need N
  have GFo := ok_forks (P := P) (w := w) (base := base) D_has_forks_of T mk
  have GSh := ok_isShape D_is_shape GFo
  have GNS := ok_needShape (U := U) D_need_shape GSh GN
  have GG := all_grow (P := P) (w := w) (base := base) FG bG T TC 20
  have GIn := ok_init FC bG GG TC GNS
  have GNo := ok_need_node (C := C) D_need_node T TC GB GN
  have GQu := ok_need_queue (C := C) D_need_queue T TC GB GN
  have GWi := ok_within (P := P) (w := w) (base := base) (C := C) D_is_within TC
  have GMe := ok_meet_in D_meet_in TC GWi
  have GSi := ok_side (P := P) (w := w) (base := base) (C := C) D_side_toward TC
  have TMM : TM P w K mg base C U := by
    refine ⟨?_, ?_, ?_, ?_, ?_, ?_, ?_, ?_, ?_, ?_, ?_, ?_⟩
    · obtain ⟨f, fd, me, F, b, kb⟩ := M_bough_of.ex
      exact ⟨f, fd, me, ok_bough_of F TC GNo, b, kb⟩
    · obtain ⟨f, fd, me, F, b, kb⟩ := M_parent_of.ex
      exact ⟨f, fd, me, ok_parent_of F TC GNo, b, kb⟩
    · obtain ⟨f, fd, me, F, b, kb⟩ := M_kids_of.ex
      exact ⟨f, fd, me, ok_kids_of F TC GNo, b, kb⟩
    · obtain ⟨f, fd, me, F, b, kb⟩ := M_depth_of.ex
      exact ⟨f, fd, me, ok_depth_of F TC GNo, b, kb⟩
    · obtain ⟨f, fd, me, F, b, kb⟩ := M_low_of.ex
      exact ⟨f, fd, me, ok_low_of F TC GNo, b, kb⟩
    · obtain ⟨f, fd, me, F, b, kb⟩ := M_high_of.ex
      exact ⟨f, fd, me, ok_high_of F TC GNo, b, kb⟩
    · obtain ⟨f, fd, me, F, b, kb⟩ := M_queue_at.ex
      exact ⟨f, fd, me, ok_queue_at F TC GNo, b, kb⟩
    · obtain ⟨f, fd, me, F, b, kb⟩ := M_node_of.ex
      exact ⟨f, fd, me, ok_node_of F TC GQu, b, kb⟩
    · obtain ⟨f, fd, me, F, b, kb⟩ := M_path_of.ex
      exact ⟨f, fd, me, ok_path_of F TC GQu, b, kb⟩
    · obtain ⟨f, fd, me, F, b, kb⟩ := M_meet_of.ex
      exact ⟨f, fd, me, ok_meet_of F GNo GMe, b, kb⟩
    · obtain ⟨f, fd, me, F, b, kb⟩ := M_lies_in.ex
      exact ⟨f, fd, me, ok_lies_in F GNo GWi, b, kb⟩
    · obtain ⟨f, fd, me, F, b, kb⟩ := M_toward.ex
      exact ⟨f, fd, me, ok_toward F GNo GWi GSi GN, b, kb⟩
  have FQQ : FQ P w K mg base C := by
    obtain ⟨f, fd, me, F, b⟩ := MF
    exact ⟨f, fd, me, ok_form_of F TC, b⟩
  have GAs := ok_ask D_law_ask TC TMM
  have GA2 := ok_ask_two D_law_ask_two TC TMM
  have GTo := ok_told D_law_told N GAs GA2
  have GSa := ok_same (P := P) (w := w) (base := base) D_law_same T 16
  have GUn := ok_unmade D_law_unmade T N D_law_same M gC bC GIn
  have GPi := ok_pick (P := P) (w := w) (base := base) D_law_pick T
  have GTa := ok_tape (P := P) (w := w) (base := base) D_law_tape T
  have GShu := ok_shut (P := P) (w := w) (base := base) D_law_shut T 13
  have GMa := ok_made D_law_made T GPi GShu
  have GPl := ok_places (P := P) (w := w) (base := base) D_law_places T 13
  have GLe := ok_leaves (P := P) (w := w) (base := base) D_law_leaves T
  have GBo := ok_bough (P := P) (w := w) (base := base) D_law_bough
  have GDu := ok_due D_law_due T GBo
  have GNR := ok_node_right D_law_node_right T GDu GTo GSa
  have GQR := ok_queue_right D_law_queue_right T GTo GSa
  have GPR := ok_pair_right D_law_pair_right T GTo GSa
  have GOd := ok_odd D_law_odd T GPi
  have GRe := ok_refuses D_law_refuses T GPi GOd GTo GSa
  have GTR := ok_tree_right D_law_tree_right T TC FQQ GPi GPl GLe GSa GNR GQR GPR GRe
  exact ok_law FL T TC FQQ M gC bC kC GIn GTa GPi GMa GTR GPl GLe GSa GQR GPR GUn
end K19

set_option Elab.async false
set_option linter.all false
set_option maxRecDepth 100000
namespace K19
open PySem PySem.Spec PyProof.Rows L2
theorem te_of {K : PySem.W.Frag} {U : Addr} (b : PySem.W.subIn K (.ref U) (.type "BaseException") = some true) (i : PySem.W.isClsIn K U = true) (t : PySem.W.typeIn K (.ref U) = some (.type "type")) (s : PySem.W.subIn K (.ref U) (.ref U) = some true) : PySem.W.exmOne K (.ref U) (.ref U) = some true := by
  unfold PySem.W.isClsIn at i
  unfold PySem.W.exmOne PySem.W.kitCls
  rw [b]
  simp [i, t, s]
theorem all_mk {l : PySem.W.OpenLaw} {w : World} {K : PySem.W.Frag} {h : Heap} {mg : Str → Option Value} {fa C U fI fC fG fF : Addr} (X : K.In h) (G : h.Ns mainGlobals mg) (hfa : mg "law" = some (.ref fa))
    {ocI kVI docI pmI cdI ctI ocC kVC docC pmC cdC ctC ocG kVG docG pmG cdG ctG ocF kVF docF pmF cdF ctF ocL kVL docL pmL cdL ctL : Value} {odI anI odC anC odG anG odF anF odL anL : Option Addr} {slI slC slG slF slL : Array (Option Value)}
    {nm q : Str} {NN : Addr} {bs bm : List Value} {sn : List Str} {sub : List Value} {ab : Bool} {col : Option Bool} {dd : Option Addr} {x0 x1 x2 x3 x5 : Option Value} {tM : Tok} {fL : Addr}
    (aU : PySem.W.nsIn K mainGlobals "NotUsable" = some (some (.ref U)))
    (xL : K.lookup U = some (excClassObj nm q U NN bs bm true sn sub ab col dd x0 x1 x2 x3 x5 "ValueError.__new__")) (xm : PySem.HandSPX.refsVE bm = true)
    (saU : PySem.W.findIn K (.ref U) "__setattr__" = some (some (.builtin "object.__setattr__"))) (exU : PySem.W.subIn K (.ref U) (.type "BaseException") = some true) (tyU : PySem.W.typeIn K (.ref U) = some (.type "type")) (kU : PySem.W.keepIn K (.ref U) = true)
    (xga : PySem.W.findIn K (.ref U) "__getattribute__" = some (some (.builtin "BaseException.__getattribute__"))) (xgg : PySem.W.findIn K (.ref U) "__getattr__" = some none) (xhd : PySem.W.hasDictIn K U = true) (nw : PySem.W.findIn K (.ref U) "word" = some none) (na : PySem.W.findIn K (.ref U) "at" = some none)
    (iI : PySem.W.findIn K (.ref U) "__init__" = some (some (.ref fI))) (tI : PySem.W.typeIn K (.ref fI) = some (.type "function")) (tc : PySem.W.isClsIn K U = true) (ts : PySem.W.subIn K (.ref U) (.ref U) = some true)
    (lI : K.lookup fI = some ⟨ocI, odI, .func (PySem.W.fnOf "__init__" "NotUsable.__init__" (defArgs s_NotUsable_init) (defBody s_NotUsable_init) (defScope s_NotUsable_init) .none kVI docI pmI anI cdI ctI), slI⟩) (cI : PySem.W.codeIn K cdI "NotUsable.__init__" = true) (kI : PySem.W.keepIn K (.ref fI) = true)
    (aC : PySem.W.nsIn K mainGlobals "ShapeTree" = some (some (.ref C))) (mM : PySem.W.nsIn K mainGlobals "MOST_CHILDREN" = some (some (.int 6 tM)))
    (pg : PySem.W.plainGet K C Str.empty = true) (hd : PySem.W.hasDictIn K C = true) (po : PySem.W.plainOver K C = true) (sa : PySem.W.findIn K (.ref C) "__setattr__" = some (some (.builtin "object.__setattr__"))) (mk : PySem.W.makesIn K C = true) (kC : PySem.W.keepIn K (.ref C) = true)
    (iC : PySem.W.findIn K (.ref C) "__init__" = some (some (.ref fC))) (fC1 : PySem.W.isFn K (.ref fC) = true) (lC : K.lookup fC = some ⟨ocC, odC, .func (PySem.W.fnOf "__init__" "ShapeTree.__init__" (defArgs s_ShapeTree_init) (defBody s_ShapeTree_init) (defScope s_ShapeTree_init) .none kVC docC pmC anC cdC ctC), slC⟩) (cC : PySem.W.codeIn K cdC "ShapeTree.__init__" = true) (kC1 : PySem.W.keepIn K (.ref fC) = true)
    (iG : PySem.W.findIn K (.ref C) "_grow" = some (some (.ref fG))) (fG1 : PySem.W.isFn K (.ref fG) = true) (lG : K.lookup fG = some ⟨ocG, odG, .func (PySem.W.fnOf "_grow" "ShapeTree._grow" (defArgs s_ShapeTree_grow) (defBody s_ShapeTree_grow) (defScope s_ShapeTree_grow) .none kVG docG pmG anG cdG ctG), slG⟩) (cG : PySem.W.codeIn K cdG "ShapeTree._grow" = true) (kG : PySem.W.keepIn K (.ref fG) = true)
    (iF : PySem.W.findIn K (.ref C) "form_of" = some (some (.ref fF))) (fF1 : PySem.W.isFn K (.ref fF) = true) (lF : K.lookup fF = some ⟨ocF, odF, .func (PySem.W.fnOf "form_of" "ShapeTree.form_of" (defArgs s_ShapeTree_form_of) (defBody s_ShapeTree_form_of) (defScope s_ShapeTree_form_of) .none kVF docF pmF anF cdF ctF), slF⟩) (cF : PySem.W.codeIn K cdF "ShapeTree.form_of" = true) (kF : PySem.W.keepIn K (.ref fF) = true)
    (aL : PySem.W.nsIn K mainGlobals "law" = some (some (.ref fL))) (lL : K.lookup fL = some ⟨ocL, odL, .func (PySem.W.fnOf "law" "law" (defArgs s_law) (defBody s_law) (defScope s_law) .none kVL docL pmL anL cdL ctL), slL⟩) (cL : PySem.W.codeIn K cdL "law" = true) (kL : PySem.W.keepIn K (.ref fL) = true)
    (n0 : PySem.W.findIn K (.ref C) "form" = some none) (n1 : PySem.W.findIn K (.ref C) "boughs" = some none) (n2 : PySem.W.findIn K (.ref C) "parents" = some none) (n3 : PySem.W.findIn K (.ref C) "kids" = some none) (n4 : PySem.W.findIn K (.ref C) "depths" = some none) (n5 : PySem.W.findIn K (.ref C) "sides" = some none) (n6 : PySem.W.findIn K (.ref C) "lows" = some none) (n7 : PySem.W.findIn K (.ref C) "highs" = some none) (n8 : PySem.W.findIn K (.ref C) "ends" = some none) (n9 : PySem.W.findIn K (.ref C) "leaves" = some none) (n10 : PySem.W.findIn K (.ref C) "paths" = some none)
    (z0 : PySem.W.nsIn K mainGlobals "isinstance" = some none) (z1 : PySem.W.nsIn K mainGlobals "int" = some none) (z2 : PySem.W.nsIn K mainGlobals "bool" = some none) (z3 : PySem.W.nsIn K mainGlobals "tuple" = some none) (z4 : PySem.W.nsIn K mainGlobals "str" = some none) (z5 : PySem.W.nsIn K mainGlobals "len" = some none) (z6 : PySem.W.nsIn K mainGlobals "range" = some none) (z7 : PySem.W.nsIn K mainGlobals "enumerate" = some none) (z8 : PySem.W.nsIn K mainGlobals "sorted" = some none) (z9 : PySem.W.nsIn K mainGlobals "all" = some none) (z10 : PySem.W.nsIn K mainGlobals "min" = some none) (z11 : PySem.W.nsIn K mainGlobals "list" = some none)
    (D_is_integer : DefAt K mg "is_integer" s_is_integer ["thing"]) (D_is_number : DefAt K mg "is_number" s_is_number ["thing"]) (D_is_below : DefAt K mg "is_below" s_is_below ["thing", "bound"]) (D_need : DefAt K mg "need" s_need ["fits", "word"]) (D_is_shape : DefAt K mg "is_shape" s_is_shape ["thing"]) (D_has_forks_of : DefAt K mg "has_forks_of" s_has_forks_of ["thing", "least"]) (D_need_shape : DefAt K mg "need_shape" s_need_shape ["form", "word"]) (D_need_node : DefAt K mg "need_node" s_need_node ["tree", "node", "word"]) (D_need_queue : DefAt K mg "need_queue" s_need_queue ["tree", "queue", "word"]) (D_is_within : DefAt K mg "is_within" s_is_within ["tree", "node", "top"]) (D_meet_in : DefAt K mg "meet_in" s_meet_in ["tree", "one", "other"]) (D_side_toward : DefAt K mg "side_toward" s_side_toward ["tree", "node", "down"]) (D_law_tape : DefAt K mg "_law_tape" s_law_tape ["script"]) (D_law_pick : DefAt K mg "_law_pick" s_law_pick ["tape", "span"]) (D_law_shut : DefAt K mg "_law_shut" s_law_shut ["rows"]) (D_law_made : DefAt K mg "_law_made" s_law_made ["tape", "most", "room"]) (D_law_places : DefAt K mg "_law_places" s_law_places ["shape"]) (D_law_leaves : DefAt K mg "_law_leaves" s_law_leaves ["places"]) (D_law_bough : DefAt K mg "_law_bough" s_law_bough ["shape", "place"]) (D_law_same : DefAt K mg "_law_same" s_law_same ["mine", "due"]) (D_law_due : DefAt K mg "_law_due" s_law_due ["shape", "places", "leaves", "way", "spot"]) (D_law_ask : DefAt K mg "_law_ask" s_law_ask ["tree", "way", "number", "named"]) (D_law_ask_two : DefAt K mg "_law_ask_two" s_law_ask_two ["tree", "way", "first", "second", "named"]) (D_law_told : DefAt K mg "_law_told" s_law_told ["tree", "way", "first", "second", "named"]) (D_law_node_right : DefAt K mg "_law_node_right" s_law_node_right ["tree", "shape", "places", "leaves", "spot", "named"]) (D_law_queue_right : DefAt K mg "_law_queue_right" s_law_queue_right ["tree", "places", "leaves", "spot", "named"]) (D_law_pair_right : DefAt K mg "_law_pair_right" s_law_pair_right ["tree", "places", "first", "second", "named"]) (D_law_odd : DefAt K mg "_law_odd" s_law_odd ["tape", "many"]) (D_law_refuses : DefAt K mg "_law_refuses" s_law_refuses ["tape", "tree", "places", "leaves", "named"]) (D_law_unmade : DefAt K mg "_law_unmade" s_law_unmade ["item"]) (D_law_tree_right : DefAt K mg "_law_tree_right" s_law_tree_right ["tape", "tree", "shape", "named"])
    (M_bough_of : MethAt K C "bough_of" "ShapeTree.bough_of" s_ShapeTree_bough_of ["self", "node"] ["node"] idL) (M_parent_of : MethAt K C "parent_of" "ShapeTree.parent_of" s_ShapeTree_parent_of ["self", "node"] ["node"] idL) (M_kids_of : MethAt K C "kids_of" "ShapeTree.kids_of" s_ShapeTree_kids_of ["self", "node"] ["node"] idL) (M_depth_of : MethAt K C "depth_of" "ShapeTree.depth_of" s_ShapeTree_depth_of ["self", "node"] ["node"] idL) (M_low_of : MethAt K C "low_of" "ShapeTree.low_of" s_ShapeTree_low_of ["self", "node"] ["node"] idL) (M_high_of : MethAt K C "high_of" "ShapeTree.high_of" s_ShapeTree_high_of ["self", "node"] ["node"] idL) (M_queue_at : MethAt K C "queue_at" "ShapeTree.queue_at" s_ShapeTree_queue_at ["self", "node"] ["node"] idL) (M_node_of : MethAt K C "node_of" "ShapeTree.node_of" s_ShapeTree_node_of ["self", "queue"] ["queue"] idL) (M_path_of : MethAt K C "path_of" "ShapeTree.path_of" s_ShapeTree_path_of ["self", "queue"] ["queue"] idL) (M_meet_of : MethAt K C "meet_of" "ShapeTree.meet_of" s_ShapeTree_meet_of ["self", "one", "other"] ["other", "one"] revL) (M_lies_in : MethAt K C "lies_in" "ShapeTree.lies_in" s_ShapeTree_lies_in ["self", "node", "top"] ["top", "node"] revL) (M_toward : MethAt K C "toward" "ShapeTree.toward" s_ShapeTree_toward ["self", "node", "down"] ["down", "node"] revL) :
    ∃ fd : FuncData, (∀ (s : Shared) (v : Value), BindsTo s fd ⟨[v], []⟩ [("script", v)]) ∧ ∀ base : Heap, K.In base → base.Ns mainGlobals mg → FnOk l.prog w K mg base CX0 24 fa fd ["script"] (spLaw K) := by
  have e := hfa.symm.trans (PySem.W.mg_of X G aL)
  cases e
  have FI := fun_mk (st := s_NotUsable_init) lI cI kI
  have FC := fun_mk (st := s_ShapeTree_init) lC cC kC1
  have FG := fun_mk (st := s_ShapeTree_grow) lG cG kG
  have FF := fun_mk (st := s_ShapeTree_form_of) lF cF kF
  have FL := fun_mk (st := s_law) lL cL kL
  have bI := FI.binds (ps := ["self", "word", "at"]) fun _ _ _ _ _ _ us hl => match us, hl with | [_, _, _], _ => rfl
  have bC := FC.binds (ps := ["self", "form"]) fun _ _ _ _ _ _ us hl => match us, hl with | [_, _], _ => rfl
  have bG := FG.binds (ps := ["self", "bough", "above", "side"]) fun _ _ _ _ _ _ us hl => match us, hl with | [_, _, _, _], _ => rfl
  have bF := FF.binds (ps := ["self"]) fun _ _ _ _ _ _ us hl => match us, hl with | [_], _ => rfl
  have N : NUT K mg U fI := ⟨PySem.W.mg_of X G aU, ⟨⟨nm, q, NN, bs, bm, sn, sub, ab, col, dd, x0, x1, x2, x3, x5, xL, xm⟩, saU, exU, tyU, kU⟩, ⟨xga, xgg, exU, xhd⟩, nw, na, iI, tI, te_of exU tc tyU ts, _, FI, bI⟩
  have T : Txt K mg := ⟨PySem.W.mg_none_of X G z0, PySem.W.mg_none_of X G z1, PySem.W.mg_none_of X G z2, PySem.W.mg_none_of X G z3, PySem.W.mg_none_of X G z4, PySem.W.mg_none_of X G z5, PySem.W.mg_none_of X G z6, PySem.W.mg_none_of X G z7, PySem.W.mg_none_of X G z8, PySem.W.mg_none_of X G z9, PySem.W.mg_none_of X G z10, PySem.W.mg_none_of X G z11⟩
  have TC : TCl K mg C fG := ⟨⟨pg, hd, po, sa⟩, ⟨iG, fG1, kG⟩, n0, n1, n2, n3, n4, n5, n6, n7, n8, n9, n10⟩
  refine ⟨PySem.W.fnOf "law" "law" (defArgs s_law) (defBody s_law) (defScope s_law) .none kVL docL pmL anL cdL ctL, fun s v => .of_eq rfl, fun base _ _ => ?_⟩
  exact law_ok N T TC ⟨tM, PySem.W.mg_of X G mM⟩ FG bG ⟨mk, iC, fC1, kC⟩ (PySem.W.mg_of X G aC) FC bC bind_init ⟨_, _, ⟨iF, fF1, kF⟩, FF, bF⟩ D_is_integer D_is_number D_is_below D_need D_is_shape D_has_forks_of D_need_shape D_need_node D_need_queue D_is_within D_meet_in D_side_toward D_law_tape D_law_pick D_law_shut D_law_made D_law_places D_law_leaves D_law_bough D_law_same D_law_due D_law_ask D_law_ask_two D_law_told D_law_node_right D_law_queue_right D_law_pair_right D_law_odd D_law_refuses D_law_unmade D_law_tree_right M_bough_of M_parent_of M_kids_of M_depth_of M_low_of M_high_of M_queue_at M_node_of M_path_of M_meet_of M_lies_in M_toward FL
end K19

set_option Elab.async false
set_option linter.all false
set_option maxRecDepth 100000
open PySem PySem.W PyProof.Rows
set_option maxRecDepth 100000 in
set_option maxHeartbeats 0 in
theorem PySem.Challenge.cw_nextbough_k19_whole_tree_walks_holds : PySem.Challenge.rw_nextbough_k19_whole_tree_walks.Holds := by
  w_on; o_law; k_head; (case hw => w_witness2)
  k_fill
  refine L2.walk_of (n := 63) (k := 24) (x := "script") (CX := fun _ => L2.CX0) (sp := fun w => K19.spLaw _) rfl (by decide) rfl ⟨rfl, by decide, by decide⟩ (fun w h Y => PySem.W.kIn_of Y) ?F (fun _ _ a ns hl _ hS => ⟨a, ns, rfl, hS, hl, fun _ => rfl⟩) fun _ _ _ _ _ z => z
  case F =>
    intro w mg fa h KX G hmg
    refine' K19.all_mk KX G hmg ?aU ?xL ?xm ?saU ?exU ?tyU ?kU ?xga ?xgg ?xhd ?nw ?na ?iI ?tI ?tc ?ts ?lI ?cI ?kI ?aC ?mM ?pg ?hd ?po ?sa ?mk ?kC ?iC ?fC1 ?lC ?cC ?kC1 ?iG ?fG1 ?lG ?cG ?kG ?iF ?fF1 ?lF ?cF ?kF ?aL ?lL ?cL ?kL ?n0 ?n1 ?n2 ?n3 ?n4 ?n5 ?n6 ?n7 ?n8 ?n9 ?n10 ?z0 ?z1 ?z2 ?z3 ?z4 ?z5 ?z6 ?z7 ?z8 ?z9 ?z10 ?z11 ?Dis_integer ?Dis_number ?Dis_below ?Dneed ?Dis_shape ?Dhas_forks_of ?Dneed_shape ?Dneed_node ?Dneed_queue ?Dis_within ?Dmeet_in ?Dside_toward ?Dlaw_tape ?Dlaw_pick ?Dlaw_shut ?Dlaw_made ?Dlaw_places ?Dlaw_leaves ?Dlaw_bough ?Dlaw_same ?Dlaw_due ?Dlaw_ask ?Dlaw_ask_two ?Dlaw_told ?Dlaw_node_right ?Dlaw_queue_right ?Dlaw_pair_right ?Dlaw_odd ?Dlaw_refuses ?Dlaw_unmade ?Dlaw_tree_right ?Mbough_of ?Mparent_of ?Mkids_of ?Mdepth_of ?Mlow_of ?Mhigh_of ?Mqueue_at ?Mnode_of ?Mpath_of ?Mmeet_of ?Mlies_in ?Mtoward
    (case aU => k_is)
    (case xL => k_is)
    (case xm => rfl)
    (case saU => k_is)
    (case exU => k_is)
    (case tyU => k_is)
    (case kU => k_is)
    (case xga => k_is)
    (case xgg => k_is)
    (case xhd => k_is)
    (case nw => k_is)
    (case na => k_is)
    (case iI => k_is)
    (case tI => k_is)
    (case tc => k_is)
    (case ts => k_is)
    (case lI => k_is)
    (case cI => k_is)
    (case kI => k_is)
    (case aC => k_is)
    (case mM => k_is)
    (case pg => k_is)
    (case hd => k_is)
    (case po => k_is)
    (case sa => k_is)
    (case mk => k_is)
    (case kC => k_is)
    (case iC => k_is)
    (case fC1 => k_is)
    (case lC => k_is)
    (case cC => k_is)
    (case kC1 => k_is)
    (case iG => k_is)
    (case fG1 => k_is)
    (case lG => k_is)
    (case cG => k_is)
    (case kG => k_is)
    (case iF => k_is)
    (case fF1 => k_is)
    (case lF => k_is)
    (case cF => k_is)
    (case kF => k_is)
    (case aL => k_is)
    (case lL => k_is)
    (case cL => k_is)
    (case kL => k_is)
    (case n0 => k_is)
    (case n1 => k_is)
    (case n2 => k_is)
    (case n3 => k_is)
    (case n4 => k_is)
    (case n5 => k_is)
    (case n6 => k_is)
    (case n7 => k_is)
    (case n8 => k_is)
    (case n9 => k_is)
    (case n10 => k_is)
    (case z0 => k_is)
    (case z1 => k_is)
    (case z2 => k_is)
    (case z3 => k_is)
    (case z4 => k_is)
    (case z5 => k_is)
    (case z6 => k_is)
    (case z7 => k_is)
    (case z8 => k_is)
    (case z9 => k_is)
    (case z10 => k_is)
    (case z11 => k_is)
    (case Dis_integer => refine' K19.da_is_integer KX G ?a ?l ?c ?k; (case a => k_is); (case l => k_is); (case c => k_is); (case k => k_is))
    (case Dis_number => refine' K19.da_is_number KX G ?a ?l ?c ?k; (case a => k_is); (case l => k_is); (case c => k_is); (case k => k_is))
    (case Dis_below => refine' K19.da_is_below KX G ?a ?l ?c ?k; (case a => k_is); (case l => k_is); (case c => k_is); (case k => k_is))
    (case Dneed => refine' K19.da_need KX G ?a ?l ?c ?k; (case a => k_is); (case l => k_is); (case c => k_is); (case k => k_is))
    (case Dis_shape => refine' K19.da_is_shape KX G ?a ?l ?c ?k; (case a => k_is); (case l => k_is); (case c => k_is); (case k => k_is))
    (case Dhas_forks_of => refine' K19.da_has_forks_of KX G ?a ?l ?c ?k; (case a => k_is); (case l => k_is); (case c => k_is); (case k => k_is))
    (case Dneed_shape => refine' K19.da_need_shape KX G ?a ?l ?c ?k; (case a => k_is); (case l => k_is); (case c => k_is); (case k => k_is))
    (case Dneed_node => refine' K19.da_need_node KX G ?a ?l ?c ?k; (case a => k_is); (case l => k_is); (case c => k_is); (case k => k_is))
    (case Dneed_queue => refine' K19.da_need_queue KX G ?a ?l ?c ?k; (case a => k_is); (case l => k_is); (case c => k_is); (case k => k_is))
    (case Dis_within => refine' K19.da_is_within KX G ?a ?l ?c ?k; (case a => k_is); (case l => k_is); (case c => k_is); (case k => k_is))
    (case Dmeet_in => refine' K19.da_meet_in KX G ?a ?l ?c ?k; (case a => k_is); (case l => k_is); (case c => k_is); (case k => k_is))
    (case Dside_toward => refine' K19.da_side_toward KX G ?a ?l ?c ?k; (case a => k_is); (case l => k_is); (case c => k_is); (case k => k_is))
    (case Dlaw_tape => refine' K19.da_law_tape KX G ?a ?l ?c ?k; (case a => k_is); (case l => k_is); (case c => k_is); (case k => k_is))
    (case Dlaw_pick => refine' K19.da_law_pick KX G ?a ?l ?c ?k; (case a => k_is); (case l => k_is); (case c => k_is); (case k => k_is))
    (case Dlaw_shut => refine' K19.da_law_shut KX G ?a ?l ?c ?k; (case a => k_is); (case l => k_is); (case c => k_is); (case k => k_is))
    (case Dlaw_made => refine' K19.da_law_made KX G ?a ?l ?c ?k; (case a => k_is); (case l => k_is); (case c => k_is); (case k => k_is))
    (case Dlaw_places => refine' K19.da_law_places KX G ?a ?l ?c ?k; (case a => k_is); (case l => k_is); (case c => k_is); (case k => k_is))
    (case Dlaw_leaves => refine' K19.da_law_leaves KX G ?a ?l ?c ?k; (case a => k_is); (case l => k_is); (case c => k_is); (case k => k_is))
    (case Dlaw_bough => refine' K19.da_law_bough KX G ?a ?l ?c ?k; (case a => k_is); (case l => k_is); (case c => k_is); (case k => k_is))
    (case Dlaw_same => refine' K19.da_law_same KX G ?a ?l ?c ?k; (case a => k_is); (case l => k_is); (case c => k_is); (case k => k_is))
    (case Dlaw_due => refine' K19.da_law_due KX G ?a ?l ?c ?k; (case a => k_is); (case l => k_is); (case c => k_is); (case k => k_is))
    (case Dlaw_ask => refine' K19.da_law_ask KX G ?a ?l ?c ?k; (case a => k_is); (case l => k_is); (case c => k_is); (case k => k_is))
    (case Dlaw_ask_two => refine' K19.da_law_ask_two KX G ?a ?l ?c ?k; (case a => k_is); (case l => k_is); (case c => k_is); (case k => k_is))
    (case Dlaw_told => refine' K19.da_law_told KX G ?a ?l ?c ?k; (case a => k_is); (case l => k_is); (case c => k_is); (case k => k_is))
    (case Dlaw_node_right => refine' K19.da_law_node_right KX G ?a ?l ?c ?k; (case a => k_is); (case l => k_is); (case c => k_is); (case k => k_is))
    (case Dlaw_queue_right => refine' K19.da_law_queue_right KX G ?a ?l ?c ?k; (case a => k_is); (case l => k_is); (case c => k_is); (case k => k_is))
    (case Dlaw_pair_right => refine' K19.da_law_pair_right KX G ?a ?l ?c ?k; (case a => k_is); (case l => k_is); (case c => k_is); (case k => k_is))
    (case Dlaw_odd => refine' K19.da_law_odd KX G ?a ?l ?c ?k; (case a => k_is); (case l => k_is); (case c => k_is); (case k => k_is))
    (case Dlaw_refuses => refine' K19.da_law_refuses KX G ?a ?l ?c ?k; (case a => k_is); (case l => k_is); (case c => k_is); (case k => k_is))
    (case Dlaw_unmade => refine' K19.da_law_unmade KX G ?a ?l ?c ?k; (case a => k_is); (case l => k_is); (case c => k_is); (case k => k_is))
    (case Dlaw_tree_right => refine' K19.da_law_tree_right KX G ?a ?l ?c ?k; (case a => k_is); (case l => k_is); (case c => k_is); (case k => k_is))
    (case Mbough_of => refine' K19.ma_bough_of ?a ?i ?l ?c ?k; (case a => k_is); (case i => k_is); (case l => k_is); (case c => k_is); (case k => k_is))
    (case Mparent_of => refine' K19.ma_parent_of ?a ?i ?l ?c ?k; (case a => k_is); (case i => k_is); (case l => k_is); (case c => k_is); (case k => k_is))
    (case Mkids_of => refine' K19.ma_kids_of ?a ?i ?l ?c ?k; (case a => k_is); (case i => k_is); (case l => k_is); (case c => k_is); (case k => k_is))
    (case Mdepth_of => refine' K19.ma_depth_of ?a ?i ?l ?c ?k; (case a => k_is); (case i => k_is); (case l => k_is); (case c => k_is); (case k => k_is))
    (case Mlow_of => refine' K19.ma_low_of ?a ?i ?l ?c ?k; (case a => k_is); (case i => k_is); (case l => k_is); (case c => k_is); (case k => k_is))
    (case Mhigh_of => refine' K19.ma_high_of ?a ?i ?l ?c ?k; (case a => k_is); (case i => k_is); (case l => k_is); (case c => k_is); (case k => k_is))
    (case Mqueue_at => refine' K19.ma_queue_at ?a ?i ?l ?c ?k; (case a => k_is); (case i => k_is); (case l => k_is); (case c => k_is); (case k => k_is))
    (case Mnode_of => refine' K19.ma_node_of ?a ?i ?l ?c ?k; (case a => k_is); (case i => k_is); (case l => k_is); (case c => k_is); (case k => k_is))
    (case Mpath_of => refine' K19.ma_path_of ?a ?i ?l ?c ?k; (case a => k_is); (case i => k_is); (case l => k_is); (case c => k_is); (case k => k_is))
    (case Mmeet_of => refine' K19.ma_meet_of ?a ?i ?l ?c ?k; (case a => k_is); (case i => k_is); (case l => k_is); (case c => k_is); (case k => k_is))
    (case Mlies_in => refine' K19.ma_lies_in ?a ?i ?l ?c ?k; (case a => k_is); (case i => k_is); (case l => k_is); (case c => k_is); (case k => k_is))
    (case Mtoward => refine' K19.ma_toward ?a ?i ?l ?c ?k; (case a => k_is); (case i => k_is); (case l => k_is); (case c => k_is); (case k => k_is))
