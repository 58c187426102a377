import PyProof.Rows.All
import Wide.All
import OpenK.AllK
import Wide.FinOn
import PySem.Challenge.RW_nextbough_k65_whole_bough_events
import HandS.ForMost
import HandS.ForExc
import HandS.Deep
import HandS.TupAny
import HandS.TupMul
import HandS.ExcInit
import HandS.ExcField
import HandS.IsInst
import HandS.Conv
import HandS.Evl
import KE.GoesMore
import HandS.Walk
import HandS.TupLe
import HandS.NamedTupSort
import KE.GoesEnum
import HandS.Zip
import HandS.More
import HandS.Dict
import HandS.Wide
import HandS.DictTup
import HandS.ExcIs
import KE.KExcIs
set_option Elab.async false
set_option linter.all false
set_option maxRecDepth 100000
set_option maxHeartbeats 2000000
namespace K65
open PySem PySem.Spec PyProof.Rows L2
def topS (i : Nat) : Stmt := PySem.Challenge.pw_nextbough_k65_whole_bough_events.main.body.getD i (.Pass ⟨0, 0, 0, 0⟩)
abbrev s_wall : Stmt := topS 0
abbrev N_wall : List Str := ["k"]
theorem sc_wall : FnScope N_wall ["k"] (defScope s_wall) := ⟨rfl, rfl, rfl, by decide +kernel, rfl, by decide +kernel, by decide +kernel⟩
abbrev s_NotUsable_init : Stmt := inClass (topS 4) 0
abbrev N_NotUsable_init : List Str := ["self", "word", "at"]
theorem sc_NotUsable_init : FnScope N_NotUsable_init ["self", "word", "at"] (defScope s_NotUsable_init) := ⟨rfl, rfl, rfl, by decide +kernel, rfl, by decide +kernel, by decide +kernel⟩
abbrev s_is_integer : Stmt := topS 7
abbrev N_is_integer : List Str := ["thing"]
theorem sc_is_integer : FnScope N_is_integer ["thing"] (defScope s_is_integer) := ⟨rfl, rfl, rfl, by decide +kernel, rfl, by decide +kernel, by decide +kernel⟩
abbrev s_is_number : Stmt := topS 8
abbrev N_is_number : List Str := ["thing"]
theorem sc_is_number : FnScope N_is_number ["thing"] (defScope s_is_number) := ⟨rfl, rfl, rfl, by decide +kernel, rfl, by decide +kernel, by decide +kernel⟩
abbrev s_is_below : Stmt := topS 9
abbrev N_is_below : List Str := ["thing", "bound"]
theorem sc_is_below : FnScope N_is_below ["thing", "bound"] (defScope s_is_below) := ⟨rfl, rfl, rfl, by decide +kernel, rfl, by decide +kernel, by decide +kernel⟩
abbrev s_need : Stmt := topS 10
abbrev N_need : List Str := ["fits", "word"]
theorem sc_need : FnScope N_need ["fits", "word"] (defScope s_need) := ⟨rfl, rfl, rfl, by decide +kernel, rfl, by decide +kernel, by decide +kernel⟩
abbrev s_is_shape : Stmt := topS 13
abbrev N_is_shape : List Str := ["thing"]
theorem sc_is_shape : FnScope N_is_shape ["thing"] (defScope s_is_shape) := ⟨rfl, rfl, rfl, by decide +kernel, rfl, by decide +kernel, by decide +kernel⟩
abbrev s_has_forks_of : Stmt := topS 14
abbrev N_has_forks_of : List Str := ["thing", "least", "left", "part"]
theorem sc_has_forks_of : FnScope N_has_forks_of ["thing", "least"] (defScope s_has_forks_of) := ⟨rfl, rfl, rfl, by decide +kernel, rfl, by decide +kernel, by decide +kernel⟩
abbrev s_need_shape : Stmt := topS 15
abbrev N_need_shape : List Str := ["form", "word"]
theorem sc_need_shape : FnScope N_need_shape ["form", "word"] (defScope s_need_shape) := ⟨rfl, rfl, rfl, by decide +kernel, rfl, by decide +kernel, by decide +kernel⟩
abbrev s_ShapeTree_init : Stmt := inClass (topS 17) 0
abbrev N_ShapeTree_init : List Str := ["self", "form"]
theorem sc_ShapeTree_init : FnScope N_ShapeTree_init ["self", "form"] (defScope s_ShapeTree_init) := ⟨rfl, rfl, rfl, by decide +kernel, rfl, by decide +kernel, by decide +kernel⟩
abbrev s_ShapeTree_grow : Stmt := inClass (topS 17) 1
abbrev N_ShapeTree_grow : List Str := ["self", "bough", "above", "side", "node", "path", "kids", "place", "kid"]
theorem sc_ShapeTree_grow : FnScope N_ShapeTree_grow ["self", "bough", "above", "side"] (defScope s_ShapeTree_grow) := ⟨rfl, rfl, rfl, by decide +kernel, rfl, by decide +kernel, by decide +kernel⟩
abbrev s_ShapeTree_form_of : Stmt := inClass (topS 17) 2
abbrev N_ShapeTree_form_of : List Str := ["self"]
theorem sc_ShapeTree_form_of : FnScope N_ShapeTree_form_of ["self"] (defScope s_ShapeTree_form_of) := ⟨rfl, rfl, rfl, by decide +kernel, rfl, by decide +kernel, by decide +kernel⟩
abbrev s_ShapeTree_bough_of : Stmt := inClass (topS 17) 3
abbrev N_ShapeTree_bough_of : List Str := ["self", "node"]
theorem sc_ShapeTree_bough_of : FnScope N_ShapeTree_bough_of ["self", "node"] (defScope s_ShapeTree_bough_of) := ⟨rfl, rfl, rfl, by decide +kernel, rfl, by decide +kernel, by decide +kernel⟩
abbrev s_ShapeTree_parent_of : Stmt := inClass (topS 17) 4
abbrev N_ShapeTree_parent_of : List Str := ["self", "node"]
theorem sc_ShapeTree_parent_of : FnScope N_ShapeTree_parent_of ["self", "node"] (defScope s_ShapeTree_parent_of) := ⟨rfl, rfl, rfl, by decide +kernel, rfl, by decide +kernel, by decide +kernel⟩
abbrev s_ShapeTree_kids_of : Stmt := inClass (topS 17) 5
abbrev N_ShapeTree_kids_of : List Str := ["self", "node"]
theorem sc_ShapeTree_kids_of : FnScope N_ShapeTree_kids_of ["self", "node"] (defScope s_ShapeTree_kids_of) := ⟨rfl, rfl, rfl, by decide +kernel, rfl, by decide +kernel, by decide +kernel⟩
abbrev s_ShapeTree_depth_of : Stmt := inClass (topS 17) 6
abbrev N_ShapeTree_depth_of : List Str := ["self", "node"]
theorem sc_ShapeTree_depth_of : FnScope N_ShapeTree_depth_of ["self", "node"] (defScope s_ShapeTree_depth_of) := ⟨rfl, rfl, rfl, by decide +kernel, rfl, by decide +kernel, by decide +kernel⟩
abbrev s_ShapeTree_low_of : Stmt := inClass (topS 17) 7
abbrev N_ShapeTree_low_of : List Str := ["self", "node"]
theorem sc_ShapeTree_low_of : FnScope N_ShapeTree_low_of ["self", "node"] (defScope s_ShapeTree_low_of) := ⟨rfl, rfl, rfl, by decide +kernel, rfl, by decide +kernel, by decide +kernel⟩
abbrev s_ShapeTree_high_of : Stmt := inClass (topS 17) 8
abbrev N_ShapeTree_high_of : List Str := ["self", "node"]
theorem sc_ShapeTree_high_of : FnScope N_ShapeTree_high_of ["self", "node"] (defScope s_ShapeTree_high_of) := ⟨rfl, rfl, rfl, by decide +kernel, rfl, by decide +kernel, by decide +kernel⟩
abbrev s_ShapeTree_node_of : Stmt := inClass (topS 17) 9
abbrev N_ShapeTree_node_of : List Str := ["self", "queue"]
theorem sc_ShapeTree_node_of : FnScope N_ShapeTree_node_of ["self", "queue"] (defScope s_ShapeTree_node_of) := ⟨rfl, rfl, rfl, by decide +kernel, rfl, by decide +kernel, by decide +kernel⟩
abbrev s_ShapeTree_queue_at : Stmt := inClass (topS 17) 10
abbrev N_ShapeTree_queue_at : List Str := ["self", "node"]
theorem sc_ShapeTree_queue_at : FnScope N_ShapeTree_queue_at ["self", "node"] (defScope s_ShapeTree_queue_at) := ⟨rfl, rfl, rfl, by decide +kernel, rfl, by decide +kernel, by decide +kernel⟩
abbrev s_ShapeTree_path_of : Stmt := inClass (topS 17) 11
abbrev N_ShapeTree_path_of : List Str := ["self", "queue"]
theorem sc_ShapeTree_path_of : FnScope N_ShapeTree_path_of ["self", "queue"] (defScope s_ShapeTree_path_of) := ⟨rfl, rfl, rfl, by decide +kernel, rfl, by decide +kernel, by decide +kernel⟩
abbrev s_ShapeTree_meet_of : Stmt := inClass (topS 17) 12
abbrev N_ShapeTree_meet_of : List Str := ["self", "one", "other"]
theorem sc_ShapeTree_meet_of : FnScope N_ShapeTree_meet_of ["self", "one", "other"] (defScope s_ShapeTree_meet_of) := ⟨rfl, rfl, rfl, by decide +kernel, rfl, by decide +kernel, by decide +kernel⟩
abbrev s_ShapeTree_lies_in : Stmt := inClass (topS 17) 13
abbrev N_ShapeTree_lies_in : List Str := ["self", "node", "top"]
theorem sc_ShapeTree_lies_in : FnScope N_ShapeTree_lies_in ["self", "node", "top"] (defScope s_ShapeTree_lies_in) := ⟨rfl, rfl, rfl, by decide +kernel, rfl, by decide +kernel, by decide +kernel⟩
abbrev s_ShapeTree_toward : Stmt := inClass (topS 17) 14
abbrev N_ShapeTree_toward : List Str := ["self", "node", "down"]
theorem sc_ShapeTree_toward : FnScope N_ShapeTree_toward ["self", "node", "down"] (defScope s_ShapeTree_toward) := ⟨rfl, rfl, rfl, by decide +kernel, rfl, by decide +kernel, by decide +kernel⟩
abbrev s_need_node : Stmt := topS 18
abbrev N_need_node : List Str := ["tree", "node", "word"]
theorem sc_need_node : FnScope N_need_node ["tree", "node", "word"] (defScope s_need_node) := ⟨rfl, rfl, rfl, by decide +kernel, rfl, by decide +kernel, by decide +kernel⟩
abbrev s_need_queue : Stmt := topS 19
abbrev N_need_queue : List Str := ["tree", "queue", "word"]
theorem sc_need_queue : FnScope N_need_queue ["tree", "queue", "word"] (defScope s_need_queue) := ⟨rfl, rfl, rfl, by decide +kernel, rfl, by decide +kernel, by decide +kernel⟩
abbrev s_shape_tree : Stmt := topS 20
abbrev N_shape_tree : List Str := ["form", "word"]
theorem sc_shape_tree : FnScope N_shape_tree ["form", "word"] (defScope s_shape_tree) := ⟨rfl, rfl, rfl, by decide +kernel, rfl, by decide +kernel, by decide +kernel⟩
abbrev s_is_rank : Stmt := topS 24
abbrev N_is_rank : List Str := ["thing", "part"]
theorem sc_is_rank : FnScope N_is_rank ["thing"] (defScope s_is_rank) := ⟨rfl, rfl, rfl, by decide +kernel, rfl, by decide +kernel, by decide +kernel⟩
abbrev s_fit_path : Stmt := topS 25
abbrev N_fit_path : List Str := ["tree", "queue", "thing", "rank"]
theorem sc_fit_path : FnScope N_fit_path ["tree", "queue", "thing"] (defScope s_fit_path) := ⟨rfl, rfl, rfl, by decide +kernel, rfl, by decide +kernel, by decide +kernel⟩
abbrev s_is_way : Stmt := topS 26
abbrev N_is_way : List Str := ["tree", "queue", "ranks"]
theorem sc_is_way : FnScope N_is_way ["tree", "queue", "ranks"] (defScope s_is_way) := ⟨rfl, rfl, rfl, by decide +kernel, rfl, by decide +kernel, by decide +kernel⟩
abbrev s_are_events : Stmt := topS 27
abbrev N_are_events : List Str := ["tree", "thing", "pushed", "event"]
theorem sc_are_events : FnScope N_are_events ["tree", "thing"] (defScope s_are_events) := ⟨rfl, rfl, rfl, by decide +kernel, rfl, by decide +kernel, by decide +kernel⟩
abbrev s_is_event : Stmt := topS 28
abbrev N_is_event : List Str := ["tree", "thing"]
theorem sc_is_event : FnScope N_is_event ["tree", "thing"] (defScope s_is_event) := ⟨rfl, rfl, rfl, by decide +kernel, rfl, by decide +kernel, by decide +kernel⟩
abbrev s_place_behind : Stmt := topS 30
abbrev N_place_behind : List Str := ["line", "rank", "low", "high", "middle"]
theorem sc_place_behind : FnScope N_place_behind ["line", "rank"] (defScope s_place_behind) := ⟨rfl, rfl, rfl, by decide +kernel, rfl, by decide +kernel, by decide +kernel⟩
abbrev s_Standing_init : Stmt := inClass (topS 32) 0
abbrev N_Standing_init : List Str := ["self", "form", "_"]
theorem sc_Standing_init : FnScope N_Standing_init ["self", "form"] (defScope s_Standing_init) := ⟨rfl, rfl, rfl, by decide +kernel, rfl, by decide +kernel, by decide +kernel⟩
abbrev s_Standing_form_of : Stmt := inClass (topS 32) 1
abbrev N_Standing_form_of : List Str := ["self"]
theorem sc_Standing_form_of : FnScope N_Standing_form_of ["self"] (defScope s_Standing_form_of) := ⟨rfl, rfl, rfl, by decide +kernel, rfl, by decide +kernel, by decide +kernel⟩
abbrev s_Standing_push : Stmt := inClass (topS 32) 2
abbrev N_Standing_push : List Str := ["self", "number", "queue", "ranks", "path", "node", "items", "rank", "item", "line"]
theorem sc_Standing_push : FnScope N_Standing_push ["self", "number", "queue", "ranks"] (defScope s_Standing_push) := ⟨rfl, rfl, rfl, by decide +kernel, rfl, by decide +kernel, by decide +kernel⟩
abbrev s_Standing_depart : Stmt := inClass (topS 32) 3
abbrev N_Standing_depart : List Str := ["self", "ranks", "node", "rank", "child", "number", "queue"]
theorem sc_Standing_depart : FnScope N_Standing_depart ["self"] (defScope s_Standing_depart) := ⟨rfl, rfl, rfl, by decide +kernel, rfl, by decide +kernel, by decide +kernel⟩
abbrev s_Standing_line_of : Stmt := inClass (topS 32) 4
abbrev N_Standing_line_of : List Str := ["self", "node"]
theorem sc_Standing_line_of : FnScope N_Standing_line_of ["self", "node"] (defScope s_Standing_line_of) := ⟨rfl, rfl, rfl, by decide +kernel, rfl, by decide +kernel, by decide +kernel⟩
abbrev s_Standing_all_lines : Stmt := inClass (topS 32) 5
abbrev N_Standing_all_lines : List Str := ["self", "line"]
theorem sc_Standing_all_lines : FnScope N_Standing_all_lines ["self"] (defScope s_Standing_all_lines) := ⟨rfl, rfl, rfl, by decide +kernel, rfl, by decide +kernel, by decide +kernel⟩
abbrev s_Standing_order : Stmt := inClass (topS 32) 6
abbrev N_Standing_order : List Str := ["self"]
theorem sc_Standing_order : FnScope N_Standing_order ["self"] (defScope s_Standing_order) := ⟨rfl, rfl, rfl, by decide +kernel, rfl, by decide +kernel, by decide +kernel⟩
abbrev s_Standing_lies_at : Stmt := inClass (topS 32) 7
abbrev N_Standing_lies_at : List Str := ["self", "number"]
theorem sc_Standing_lies_at : FnScope N_Standing_lies_at ["self", "number"] (defScope s_Standing_lies_at) := ⟨rfl, rfl, rfl, by decide +kernel, rfl, by decide +kernel, by decide +kernel⟩
abbrev s_Standing_present : Stmt := inClass (topS 32) 8
abbrev N_Standing_present : List Str := ["self"]
theorem sc_Standing_present : FnScope N_Standing_present ["self"] (defScope s_Standing_present) := ⟨rfl, rfl, rfl, by decide +kernel, rfl, by decide +kernel, by decide +kernel⟩
abbrev s_Standing_many_present : Stmt := inClass (topS 32) 9
abbrev N_Standing_many_present : List Str := ["self"]
theorem sc_Standing_many_present : FnScope N_Standing_many_present ["self"] (defScope s_Standing_many_present) := ⟨rfl, rfl, rfl, by decide +kernel, rfl, by decide +kernel, by decide +kernel⟩
abbrev s_Standing_twin : Stmt := inClass (topS 32) 10
abbrev N_Standing_twin : List Str := ["self"]
theorem sc_Standing_twin : FnScope N_Standing_twin ["self"] (defScope s_Standing_twin) := ⟨rfl, rfl, rfl, by decide +kernel, rfl, by decide +kernel, by decide +kernel⟩
abbrev s_Standing_same_as : Stmt := inClass (topS 32) 11
abbrev N_Standing_same_as : List Str := ["self", "other"]
theorem sc_Standing_same_as : FnScope N_Standing_same_as ["self", "other"] (defScope s_Standing_same_as) := ⟨rfl, rfl, rfl, by decide +kernel, rfl, by decide +kernel, by decide +kernel⟩
abbrev s_need_standing : Stmt := topS 33
abbrev N_need_standing : List Str := ["standing", "word"]
theorem sc_need_standing : FnScope N_need_standing ["standing", "word"] (defScope s_need_standing) := ⟨rfl, rfl, rfl, by decide +kernel, rfl, by decide +kernel, by decide +kernel⟩
abbrev s_need_absent : Stmt := topS 34
abbrev N_need_absent : List Str := ["standing", "number"]
theorem sc_need_absent : FnScope N_need_absent ["standing", "number"] (defScope s_need_absent) := ⟨rfl, rfl, rfl, by decide +kernel, rfl, by decide +kernel, by decide +kernel⟩
abbrev s_standing_with : Stmt := topS 35
abbrev N_standing_with : List Str := ["form", "lines", "made", "line", "queue", "node", "entry"]
theorem sc_standing_with : FnScope N_standing_with ["form", "lines"] (defScope s_standing_with) := ⟨rfl, rfl, rfl, by decide +kernel, rfl, by decide +kernel, by decide +kernel⟩
abbrev s_bough_events : Stmt := topS 37
abbrev N_bough_events : List Str := ["form", "events", "node", "tree", "held", "found", "event", "queue", "gone"]
theorem sc_bough_events : FnScope N_bough_events ["form", "events", "node"] (defScope s_bough_events) := ⟨rfl, rfl, rfl, by decide +kernel, rfl, by decide +kernel, by decide +kernel⟩
abbrev s_play_events : Stmt := topS 39
abbrev N_play_events : List Str := ["form", "events", "standing", "departed", "event"]
theorem sc_play_events : FnScope N_play_events ["form", "events"] (defScope s_play_events) := ⟨rfl, rfl, rfl, by decide +kernel, rfl, by decide +kernel, by decide +kernel⟩
abbrev s_packet_gone : Stmt := topS 40
abbrev N_packet_gone : List Str := ["standing", "gone"]
theorem sc_packet_gone : FnScope N_packet_gone ["standing"] (defScope s_packet_gone) := ⟨rfl, rfl, rfl, by decide +kernel, rfl, by decide +kernel, by decide +kernel⟩
abbrev s_bough_standing : Stmt := topS 42
abbrev N_bough_standing : List Str := ["standing", "node", "tree"]
theorem sc_bough_standing : FnScope N_bough_standing ["standing", "node"] (defScope s_bough_standing) := ⟨rfl, rfl, rfl, by decide +kernel, rfl, by decide +kernel, by decide +kernel⟩
abbrev s_law_tape : Stmt := topS 44
abbrev N_law_tape : List Str := ["script", "state", "greats", "cell"]
theorem sc_law_tape : FnScope N_law_tape ["script"] (defScope s_law_tape) := ⟨rfl, rfl, rfl, by decide +kernel, rfl, by decide +kernel, by decide +kernel⟩
abbrev s_law_pick : Stmt := topS 45
abbrev N_law_pick : List Str := ["tape", "many", "greats", "got"]
theorem sc_law_pick : FnScope N_law_pick ["tape", "many"] (defScope s_law_pick) := ⟨rfl, rfl, rfl, by decide +kernel, rfl, by decide +kernel, by decide +kernel⟩
abbrev s_law_same : Stmt := topS 46
abbrev N_law_same : List Str := ["told", "due", "k"]
theorem sc_law_same : FnScope N_law_same ["told", "due"] (defScope s_law_same) := ⟨rfl, rfl, rfl, by decide +kernel, rfl, by decide +kernel, by decide +kernel⟩
abbrev s_law_shape : Stmt := topS 47
abbrev N_law_shape : List Str := ["tape", "room", "deep", "spare", "many", "rest", "kids", "k", "extra"]
theorem sc_law_shape : FnScope N_law_shape ["tape", "room", "deep", "spare"] (defScope s_law_shape) := ⟨rfl, rfl, rfl, by decide +kernel, rfl, by decide +kernel, by decide +kernel⟩
abbrev s_law_spots : Stmt := topS 48
abbrev N_law_spots : List Str := ["figure", "above", "slot", "depth", "spots", "place", "row", "low", "k", "other"]
theorem sc_law_spots : FnScope N_law_spots ["figure", "above", "slot", "depth", "spots"] (defScope s_law_spots) := ⟨rfl, rfl, rfl, by decide +kernel, rfl, by decide +kernel, by decide +kernel⟩
abbrev s_law_rank : Stmt := topS 49
abbrev N_law_rank : List Str := ["tape", "size", "rank", "k"]
theorem sc_law_rank : FnScope N_law_rank ["tape"] (defScope s_law_rank) := ⟨rfl, rfl, rfl, by decide +kernel, rfl, by decide +kernel, by decide +kernel⟩
abbrev s_law_depth : Stmt := topS 50
abbrev N_law_depth : List Str := ["spots", "queue", "row"]
theorem sc_law_depth : FnScope N_law_depth ["spots", "queue"] (defScope s_law_depth) := ⟨rfl, rfl, rfl, by decide +kernel, rfl, by decide +kernel, by decide +kernel⟩
abbrev s_law_story : Stmt := topS 51
abbrev N_law_story : List Str := ["tape", "spots", "story", "queues", "busy", "few", "k", "number", "queue", "depth", "ranks"]
theorem sc_law_story : FnScope N_law_story ["tape", "spots"] (defScope s_law_story) := ⟨rfl, rfl, rfl, by decide +kernel, rfl, by decide +kernel, by decide +kernel⟩
abbrev s_law_play : Stmt := topS 52
abbrev N_law_play : List Str := ["spots", "story", "gone", "k", "leaves", "event", "place", "item", "entry", "ranks"]
theorem sc_law_play : FnScope N_law_play ["spots", "story"] (defScope s_law_play) := ⟨rfl, rfl, rfl, by decide +kernel, rfl, by decide +kernel, by decide +kernel⟩
abbrev s_law_line : Stmt := topS 53
abbrev N_law_line : List Str := ["row", "bag", "k", "places", "found"]
theorem sc_law_line : FnScope N_law_line ["row"] (defScope s_law_line) := ⟨rfl, rfl, rfl, by decide +kernel, rfl, by decide +kernel, by decide +kernel⟩
abbrev s_law_due : Stmt := topS 54
abbrev N_law_due : List Str := ["spots", "story", "gone", "spot", "row", "due", "count", "event"]
theorem sc_law_due : FnScope N_law_due ["spots", "story", "gone", "spot"] (defScope s_law_due) := ⟨rfl, rfl, rfl, by decide +kernel, rfl, by decide +kernel, by decide +kernel⟩
abbrev s_law_told : Stmt := topS 55
abbrev N_law_told : List Str := ["figure", "story", "spot", "named", "e"]
theorem sc_law_told : FnScope N_law_told ["figure", "story", "spot", "named"] (defScope s_law_told) := ⟨rfl, rfl, rfl, by decide +kernel, rfl, by decide +kernel, by decide +kernel⟩
abbrev s_law_bad_story : Stmt := topS 56
abbrev N_law_bad_story : List Str := ["tape", "spots", "story", "k", "ranks", "good", "bad", "at", "way", "fresh", "event", "kept"]
theorem sc_law_bad_story : FnScope N_law_bad_story ["tape", "spots", "story"] (defScope s_law_bad_story) := ⟨rfl, rfl, rfl, by decide +kernel, rfl, by decide +kernel, by decide +kernel⟩
abbrev s_law_cut : Stmt := topS 57
abbrev N_law_cut : List Str := ["story", "many", "k", "ranks", "rank"]
theorem sc_law_cut : FnScope N_law_cut ["story"] (defScope s_law_cut) := ⟨rfl, rfl, rfl, by decide +kernel, rfl, by decide +kernel, by decide +kernel⟩
abbrev s_law_refused : Stmt := topS 58
abbrev N_law_refused : List Str := ["tape", "figure", "story", "spots", "odd", "many", "away", "spot", "named", "k", "bad"]
theorem sc_law_refused : FnScope N_law_refused ["tape", "figure", "story", "spots"] (defScope s_law_refused) := ⟨rfl, rfl, rfl, by decide +kernel, rfl, by decide +kernel, by decide +kernel⟩
abbrev s_law_bough : Stmt := topS 59
abbrev N_law_bough : List Str := ["tape", "spots", "story", "gone", "spot", "held", "row", "due", "departed", "alone", "told", "left", "inner", "lines", "top", "k", "over"]
theorem sc_law_bough : FnScope N_law_bough ["tape", "spots", "story", "gone", "spot", "held"] (defScope s_law_bough) := ⟨rfl, rfl, rfl, by decide +kernel, rfl, by decide +kernel, by decide +kernel⟩
abbrev s_law : Stmt := topS 60
abbrev N_law : List Str := ["script", "tape", "room", "figure", "spots", "story", "gone", "departed", "held", "told", "start", "k"]
theorem sc_law : FnScope N_law ["script"] (defScope s_law) := ⟨rfl, rfl, rfl, by decide +kernel, rfl, by decide +kernel, by decide +kernel⟩
end K65
set_option Elab.async false
set_option linter.all false
set_option maxRecDepth 100000
set_option maxHeartbeats 2000000
namespace K65
open PySem PySem.Spec PyProof.Rows L2

/-! ### kinds of values -/
/-- the kinds that come: by the name of the type -/
def KindV (K : PySem.W.Frag) (H : Hp) (x : V) (t : String) : Prop := TyX K H x (.type t) ∧ (t = "int" ∨ t = "bool" ∨ t = "NoneType" ∨ t = "str" ∨ t = "tuple" ∨ t = "list")
/-- a value seen as an integer, or none -/
def NumV (K : PySem.W.Frag) (H : Hp) (x : V) : Option Int → Prop
  | some i => x = .int i
  | none => ∃ t, KindV K H x t ∧ t ≠ "int"
theorem kind_int {K : PySem.W.Frag} {H : Hp} (i : Int) : KindV K H (.int i) "int" := ⟨.base (.int i), .inl rfl⟩
theorem kind_bl {K : PySem.W.Frag} {H : Hp} (b : Bool) : KindV K H (.bl b) "bool" := ⟨.base (.bl b), .inr (.inl rfl)⟩
theorem kind_non {K : PySem.W.Frag} {H : Hp} : KindV K H .non "NoneType" := ⟨.base .non, .inr (.inr (.inl rfl))⟩
theorem kind_str {K : PySem.W.Frag} {H : Hp} (s : Str) : KindV K H (.str s) "str" := ⟨.base (.str s), .inr (.inr (.inr (.inl rfl)))⟩
theorem kind_tup {K : PySem.W.Frag} {H : Hp} {a : Addr} {xs : List V} (h : H a = some (.tup xs)) : KindV K H (.ref a) "tuple" := ⟨.base (.tup h), .inr (.inr (.inr (.inr (.inl rfl))))⟩
theorem kind_lst {K : PySem.W.Frag} {H : Hp} {a : Addr} {xs : List V} (h : H a = some (.lst xs)) : KindV K H (.ref a) "list" := ⟨.base (.lst h), .inr (.inr (.inr (.inr (.inr rfl))))⟩
theorem kit_int {t : String} (h : t = "int" ∨ t = "bool" ∨ t = "NoneType" ∨ t = "str" ∨ t = "tuple" ∨ t = "list") : kitB t "int" = some (t == "int" || t == "bool") := by
  rcases h with rfl | rfl | rfl | rfl | rfl | rfl <;> decide +kernel
theorem kit_bool {t : String} (h : t = "int" ∨ t = "bool" ∨ t = "NoneType" ∨ t = "str" ∨ t = "tuple" ∨ t = "list") : kitB t "bool" = some (t == "bool") := by
  rcases h with rfl | rfl | rfl | rfl | rfl | rfl <;> decide +kernel
theorem kit_tup {t : String} (h : t = "int" ∨ t = "bool" ∨ t = "NoneType" ∨ t = "str" ∨ t = "tuple" ∨ t = "list") : kitB t "tuple" = some (t == "tuple") := by
  rcases h with rfl | rfl | rfl | rfl | rfl | rfl <;> decide +kernel
theorem kit_str {t : String} (h : t = "int" ∨ t = "bool" ∨ t = "NoneType" ∨ t = "str" ∨ t = "tuple" ∨ t = "list") : kitB t "str" = some (t == "str") := by
  rcases h with rfl | rfl | rfl | rfl | rfl | rfl <;> decide +kernel
abbrev tIsi (K : PySem.W.Frag) (i : Nat) (c : String) : TE := tCB (rIsi K) (tCons (tVar i) (tCons (tC (.ty c)) tNil))
theorem isi_read {K : PySem.W.Frag} {σ : L2.St} {H : Hp} {i : Nat} {x : V} {c t : String} {b : Bool} {Q : VK} (hσ : σ[i]? = some (some x)) (ht : TyX K H x (.type t)) (hk : kitB t c = some b) (q : Q (.bl b) H) : tIsi K i c σ H Q :=
  ⟨x, hσ, x, .ty c, .type t, .type c, b, rfl, .ty c, ht, kit_ty hk, q⟩
/-! ### the top's facts -/
structure Txt (K : PySem.W.Frag) (mg : Str → Option Value) : Prop where
  isinstance : mg "isinstance" = none
  int : mg "int" = none
  bool : mg "bool" = none
  tuple : mg "tuple" = none
  str : mg "str" = none
  len : mg "len" = none
  range : mg "range" = none
  enumerate : mg "enumerate" = none
  sorted : mg "sorted" = none
  all : mg "all" = none
  min : mg "min" = none
  list : mg "list" = none
section
variable {P : Program} {w : World} {K : PySem.W.Frag} {mg : Str → Option Value} {base : Heap}
/-! ### is_integer, is_number, is_below -/
def spInteger (K : PySem.W.Frag) : Sp := fun vs H Q _ => ∃ x o, vs = [x] ∧ NumV K H x o ∧ Q (.bl o.isSome) H
theorem ok_is_integer {f : Addr} {fd : FuncData} (F : Fun K "is_integer" "is_integer" s_is_integer f fd) (T : Txt K mg) : FnOk P w K mg base CX0 1 f fd ["thing"] (spInteger K) := by
  refine F.ok sc_is_integer (fun vs H Q E h => ?_) (fun cdv A outer s H vs Q E hr h => ?_)
  · obtain ⟨x, o, rfl, _⟩ := h
    rfl
  obtain ⟨x, o, rfl, hx, q⟩ := h
  refine ⟨_, pss_one (ps_ret (pe_and (pe_callB call_isi (by rfl) T.isinstance boot_isinstance (pa_cons (pv 0) (pa_cons (pe_bltn (v := .ty "int") (by rfl) T.int boot_int rfl) pa_nil)))
    (pe_one (pe_not (pe_callB call_isi (by rfl) T.isinstance boot_isinstance (pa_cons (pv 0) (pa_cons (pe_bltn (v := .ty "bool") (by rfl) T.bool (by decide +kernel) rfl) pa_nil))))))), ?_⟩
  cases o with
  | some i =>
    obtain rfl : x = .int i := hx
    refine isi_read rfl (kind_int i).1 (kit_int (kind_int (K := K) (H := H) i).2) ⟨_, rfl, ?_⟩
    refine iteT ?_
    exact isi_read rfl (kind_int i).1 (kit_bool (kind_int (K := K) (H := H) i).2) ⟨_, rfl, q⟩
  | none =>
    obtain ⟨t, ht, hn⟩ := hx
    refine isi_read rfl ht.1 (kit_int ht.2) ⟨_, rfl, ?_⟩
    have e1 : (t == "int") = false := by simpa using hn
    rw [e1, Bool.false_or]
    cases e2 : (t == "bool") with
    | false => exact iteF q
    | true =>
      refine iteT ?_
      refine isi_read rfl ht.1 (kit_bool ht.2) ⟨_, rfl, ?_⟩
      rw [e2]
      exact q
end
end K65
set_option Elab.async false
set_option linter.all false
set_option maxRecDepth 100000
set_option maxHeartbeats 4000000
namespace L2
open PySem PySem.Spec PyProof.Rows
/-! ### a def by its name, with what it promises -/
structure DefAt (K : PySem.W.Frag) (mg : Str → Option Value) (x : Str) (st : Stmt) (ps : List Str) : Prop where
  ex : ∃ (f : Addr) (fd : FuncData), Fun K x x st f fd ∧ mg x = some (.ref f) ∧ Binds K fd ps []
/-- the function's own object -/
def LkF (K : PySem.W.Frag) (f : Addr) (fd : FuncData) : Prop := ∃ (oc : Value) (od : Option Addr) (osl : Array (Option Value)), K.lookup f = some ⟨oc, od, .func fd, osl⟩
theorem LkF.inj {K : PySem.W.Frag} {f : Addr} {fd fd' : FuncData} (a : LkF K f fd) (b : LkF K f fd') : fd = fd' := by
  obtain ⟨oc, od, osl, h⟩ := a
  obtain ⟨oc', od', osl', h'⟩ := b
  rw [h] at h'
  injection h' with h'
  injection h' with _ _ h' _
  injection h'
theorem fun_lk {K : PySem.W.Frag} {x q : Str} {st : Stmt} {f : Addr} {fd : FuncData} (F : Fun K x q st f fd) : LkF K f fd := by
  obtain ⟨oc, od, kV, doc, pm, an, cdv, ct, osl, rfl, lk, _⟩ := F.ex
  exact ⟨oc, od, osl, lk⟩
structure CalX (P : Program) (w : World) (K : PySem.W.Frag) (mg : Str → Option Value) (base : Heap) (CX : CXT) (k : Nat) (x : Str) (ps : List Str) (sp : Sp) : Prop where
  ex : ∃ (f : Addr) (fd : FuncData), FnOk P w K mg base CX k f fd ps sp ∧ mg x = some (.ref f) ∧ PySem.W.keepIn K (.ref f) = true ∧ Binds K fd ps [] ∧ LkF K f fd
section
variable {P : Program} {w : World} {K : PySem.W.Frag} {mg : Str → Option Value} {base : Heap} {x : Str} {st : Stmt} {N ps : List Str} {k j : Nat} {sp : Sp} {CX : CXT}
theorem CalX.mono (c : CalX P w K mg base CX k x ps sp) (h : k ≤ j) : CalX P w K mg base CX j x ps sp := by
  obtain ⟨f, fd, F, a, b, d⟩ := c.ex
  exact ⟨f, fd, F.mono h, a, b, d⟩
theorem DefAt.ok (D : DefAt K mg x st ps) (S : FnScope N ps (defScope st)) (len : ∀ vs H Q E, sp vs H Q E → vs.length = ps.length)
    (hbody : ∀ (f : Addr) (cdv : Value) (A : Around) (outer : List Env) (s : Shared) (H : Hp) (vs : List V) (Q : VK) (E : XK), Room k (A.deeper (envOfC x (defScope st) s.heap.objs.size f cdv)) → sp vs H Q E →
      ∃ t, PSs (cxOf CX0 P w K mg base N x (defScope st) f cdv A outer s H E).nox (defBody st) t ∧ t { nx := fun _ H' => Q .non H', rt := Q } (start N vs) H) : CalX P w K mg base CX0 (k + 1) x ps sp := by
  obtain ⟨f, fd, F, m, b⟩ := D.ex
  exact ⟨f, fd, F.ok S len (hbody f), m, F.kp, b, fun_lk F⟩
end
/-! a def that may raise -/
section
variable {P : Program} {w : World} {K : PySem.W.Frag} {mg : Str → Option Value} {base : Heap} {x : Str} {st : Stmt} {N ps : List Str} {k j : Nat} {sp : Sp}
theorem DefAt.okX (D : DefAt K mg x st ps) (S : FnScope N ps (defScope st)) (len : ∀ vs H Q E, sp vs H Q E → vs.length = ps.length)
    (hbody : ∀ (f : Addr) (cdv : Value) (A : Around) (outer : List Env) (s : Shared) (H : Hp) (vs : List V) (Q : VK) (E : XK), Room k (A.deeper (envOfC x (defScope st) s.heap.objs.size f cdv)) → sp vs H Q E →
      ∃ t, PSs (cxOf (L2.CX P w) P w K mg base N x (defScope st) f cdv A outer s H E) (defBody st) t ∧ t { nx := fun _ H' => Q .non H', rt := Q } (start N vs) H) : CalX P w K mg base (L2.CX P w) (k + 1) x ps sp := by
  obtain ⟨f, fd, F, m, b⟩ := D.ex
  exact ⟨f, fd, F.okX S len (hbody f), m, F.kp, b, fun_lk F⟩
end
section
variable {X : Cx} {CX : CXT} {j k : Nat} {x : Str} {ps : List Str} {sp : Sp} {E : XK} {p pos : Pos} {e : Expr} {es : List Expr} {t : TA}
theorem pe_cx (c : CalX X.prog X.w X.K X.mg X.base CX k x ps sp) (hr : Room j X.A) (hk : k ≤ j) (hg : Gl X x) (hx : Passes CX X E) (ha : PA X (e :: es) t)
    (hdb : (x == ("__debug__" : Str)) = false := by decide) (he : starEach (e :: es) X.env = (false, eval e X.env) :: starEach es X.env := by rfl) (hpl : (backTo pos (starEach es X.env)).any (·.1) = false := by rfl) :
    PE X (.Call (.Name x p) (e :: es) [] pos) (tCall sp [] E t) := by
  obtain ⟨f, fd, F, hm, kp, b, _⟩ := c.ex
  exact pe_call F (hr.mono hk) hg hm kp b .nil hx ha hdb he hpl
/-- a callee that lets nothing out -/
theorem pe_c0 (c : CalX X.prog X.w X.K X.mg X.base CX0 k x ps sp) (hr : Room j X.A) (hk : k ≤ j) (hg : Gl X x) (ha : PA X (e :: es) t)
    (hdb : (x == ("__debug__" : Str)) = false := by decide) (he : starEach (e :: es) X.env = (false, eval e X.env) :: starEach es X.env := by rfl) (hpl : (backTo pos (starEach es X.env)).any (·.1) = false := by rfl) :
    PE X (.Call (.Name x p) (e :: es) [] pos) (tCall sp [] E0 t) := pe_cx c hr hk hg pass0 ha hdb he hpl
end
/-! ### xs.extend(t), t a tuple -/
theorem list_extend_tup (l : Addr) (items : Array Value) (n : Nat) (b : Addr) (ob : Obj) (items2 : Array Value) (n2 : Nat) (hs0 : ¬(!items.isEmpty && Builtin.List.listTooLong (items.size + items2.size)) = true) (hs1 : items.size ≤ sizeLine) (hs2 : items.size + items2.size ≤ sizeLine + 1) :
    Meets (Builtin.«list.extend» ⟨[.ref l, .ref b], []⟩) (fun _ R s => s.heap.get? l = some { cls := .type "list", dict := none, data := .seq items n, slots := #[] } ∧ s.heap.get? b = some ob ∧ ob.cls = .type "tuple" ∧ ob.data = .seq items2 n2 ∧ R (.ok (.ret Value.none)) { s with heap := s.heap.update l (Obj.mapSeq fun x => x ++ items2), toks := s.toks }) :=
  .of_wp fun prog w A R s h => by
    obtain ⟨hp, g, d, tk, os⟩ := s
    obtain ⟨hl, hb, hc, hd, h⟩ := h
    have hz' : (items ++ items2).size ≤ sizeLine + 1 := by rw [Array.size_append]; exact hs2
    show wpAny _ A.in1 (Builtin.List.listExtendWith (.ref l) (.ref b) .none) _ _ _
    unfold Builtin.List.listExtendWith
    refine wpAny_bind (wpAny_typeOf ⟨ob, hb, hc⟩ ?_)
    have h1 : (Builtin.List.listSameRef (.ref l) (.ref b) || Value.type "tuple" == Value.type "list" || Value.type "tuple" == Value.type "tuple") = true := by simp
    simp only [h1, if_true]
    refine wpAny_bind ?_
    unfold Builtin.List.listItems
    refine wpAny_bind (wpAny_seqItems hb hd (wpAny_pure ?_))
    refine wpAny_bind ?_
    refine wpAny_bind (wpAny_seqItems hl rfl (wpAny_pure ?_))
    simp only [hs0]
    show wpAny _ A.in1 (updateSeq l (· ++ items2) >>= fun _ => ret .none) _ _ _
    refine wpAny_bind (wpAny_updateSeq hl rfl ?_ hs1 hz')
    exact wpAny_pure ⟨_, rfl, h⟩
section
variable {X : Cx}
def rExtendT (K : PySem.W.Frag) : V → List V → Hp → VK → Prop := fun x vs H Q => ∃ l b xs zs, x = .ref l ∧ vs = [.ref b] ∧ H l = some (.lst xs) ∧ SqT K H b zs ∧ xs.length + zs.length ≤ sizeLine ∧ Q .non (upd H l (.lst (xs ++ zs)))
theorem mt_extendT : MtM X "list.extend" (rExtendT X.K) := by
  intro pins s σ H x vs v us Q I rx rv h
  obtain ⟨l, b, xs, zs, rfl, rfl, hH, hB, hz, q⟩ := h
  cases rx
  obtain ⟨u, rfl, ru⟩ := rv.one
  cases ru
  obtain ⟨z, its, n, r, hl, e⟩ := I.lstM hH
  obtain ⟨its2, r2, pl, z2⟩ := I.tuple hB
  obtain ⟨o2, e2, hc2, n2, hd2⟩ := pl
  have hl2 := r2.length
  have hsz : its.toArray.size + its2.toArray.size ≤ sizeLine := by rw [List.size_toArray, List.size_toArray]; omega
  have hlong : ¬ (!its.toArray.isEmpty && Builtin.List.listTooLong (its.toArray.size + its2.toArray.size)) = true := by
    rw [notLongL hsz, Bool.and_false]
    exact Bool.false_ne_true
  refine call_meets F.slot_list_extend ⟨_, e, rfl⟩ F.entry_list_extend (F.args_list_extend_2 _ _)
    (list_extend_tup l its.toArray n b o2 its2.toArray n2 hlong (by rw [List.size_toArray]; omega) (by omega)) ⟨e, e2, hc2, hd2, ?_⟩
  refine ⟨.non, _, I.lset (its' := its ++ its2) hH e (by simp) (r.append r2) ?_, rfl, q⟩
  rw [List.length_append]
  omega
end
/-! ### o.m(k = v, ..): keywords alone -/
def tMethK (C : Addr) (m : Str) (sp : Sp) (n : Nat) (gV : List V → List V) (E : XK) (ta : TE) (tk : TA) : TE := fun σ H Q => ta σ H fun x H1 => ∃ a dx fs, x = .ref a ∧ H1 a = some (.ins C dx fs) ∧ fs.lookup m = none ∧
  tk σ H1 fun zs H2 => zs.length = n ∧ sp (x :: gV zs) H2 Q E
structure KwB (fd : FuncData) (ps ks : List Str) (g : {α : Type} → List α → List α) : Prop where
  to : ∀ (s : Shared) (u : Value) (ws : List Value), ws.length = ks.length → BindsTo s fd ⟨[u], ks.zip ws⟩ (ps.zip (u :: g ws))
  rel : ∀ {zs : List V} {ws : List Value}, Vals zs ws → Vals (g zs) (g ws)
section
variable {X : Cx} {CX : CXT} {k : Nat} {f C : Addr} {fd : FuncData} {ps ks : List Str} {sp : Sp} {E : XK} {x m : Str} {p pos apos : Pos} {o : Expr} {kws : List Keyword} {ta : TE} {tk : TA} {g : {α : Type} → List α → List α}
theorem run_kw {pins : List (Addr × Obj)} {σ : St} {H : Hp} {s : Shared} {Q : VK} {u : Value} {ws : List Value} {v : V} {zs : List V} (F : FnOk X.prog X.w X.K X.mg X.base CX k f fd ps sp) (hr : Room k X.A) (hb : KwB fd ps ks g) (hx : Passes CX X E)
    (I : Inv X pins σ H s) (r : RelV v u) (rz : Vals zs ws) (hl : zs.length = ks.length) (h : sp (v :: g zs) H Q E) : wpAny (model X.prog X.w) X.A (call (.ref f) [u] (ks.zip ws)) (EP X pins σ Q) X.xe s := by
  have r2 : Vals (v :: g zs) (u :: g ws) := .cons r (hb.rel rz)
  refine wpAny_call (codeAny_mono (F.run X.A X.stack s H ⟨[u], ks.zip ws⟩ (u :: g ws) (v :: g zs) Q E hr I.env0 (hb.to s u ws (rz.length.symm.trans hl)) r2 h) fun r s' hq => ?_)
  cases r with
  | error e => exact hx pins σ H s e s' I hq
  | ok fl =>
    cases fl with
    | ret u => exact I.after hq
    | next => exact False.elim hq
    | brk => exact False.elim hq
    | cont => exact False.elim hq
theorem pe_methK {pl : Sem Bool} (he : PE X o ta) (c : Cls X.K C) (hm : Meth X.K C m f) (F : FnOk X.prog X.w X.K X.mg X.base CX k f fd ps sp) (hr : Room k X.A) (hb : KwB fd ps ks g) (hx : Passes CX X E) (hkw : PK X kws tk)
    (ht : eval (.Call (.Attribute o m apos) [] kws pos) X.env = (do
      let ov ← eval o X.env
      standAt apos.atName
      let (f, first) ← holding [ov] (getMethod ov m pl)
      callWith pos f first (backTo pos (starEach [] X.env)) (backToKw pos (keywordEach kws X.env))) := by rfl)
    (hall : (backToKw pos (keywordEach kws X.env)).all (·.1.isSome) = true := by rfl) (hks : (backToKw pos (keywordEach kws X.env)).filterMap (·.1) = ks := by rfl)
    (hpl : ((backTo pos (starEach [] X.env)).any (·.1) || (backToKw pos (keywordEach kws X.env)).any (·.1.isNone)) = false := by rfl) :
    PE X (.Call (.Attribute o m apos) [] kws pos) (tMethK C m sp ks.length g E ta tk) := by
  refine ⟨fun pins s σ H Q I h => ?_⟩
  refine PySem.W.methodCall_KW (pl := pl) (thn (he.run pins s σ H _ I h) fun u s1 ⟨x, H1, I1, rx, a, dx, fs, ex, ea, l, q⟩ => ?_) ht
  subst ex
  obtain rfl : u = Value.ref a := rx
  refine getmeth_ok I1 ea c hm l ?_
  refine PySem.W.callWith_KW0 (first := [.ref a]) (h₀ := X.base) I.ok.mod.kin hm.kp hall ?_ hpl
  refine thn (hkw.run pos pins s1 σ H1 _ I1 q) fun ws s2 ⟨zs, H2, I2, rz, hl, q2⟩ => ⟨I2.kIn, ?_⟩
  rw [hks]
  exact run_kw (v := .ref a) F hr hb hx I2 (show RelV (V.ref a) (Value.ref a) from rfl) rz hl q2
end
/-! ### try: .. except C as n: ..; except ..: .. where only the first clause is met -/
def wAs1 (K : PySem.W.Frag) (c : Value) (i : Nat) (ts : Addr → Value → Option Addr → TS) (D : Ends) : WX := fun cls d σ H =>
  PySem.W.exmOne K cls c = some true ∧ ∀ a, H a = none → ts a cls d { nx := fun σ' H' => D.nx (σ'.set i none) H', rt := D.rt, bk := fun σ' H' => D.bk (σ'.set i none) H', ct := fun σ' H' => D.ct (σ'.set i none) H' } (σ.set i (some (.ref a))) H
section
variable {X : Cx} {x n : Str} {c : Value} {i : Nat} {body suite : List Stmt} {b₀ : Stmt} {np pos pos' : Pos} {hds : List ExceptHandler} {tb : WX → TS} {ts : Addr → Value → Option Addr → TS}
theorem ps_try_as2 (hs : X.stack = X.env :: X.outer) (hf : X.env.frame = some X.env.locals) (hN : X.N.Nodup) (hi : X.N[i]? = some n) (hln : X.env.kindOf n = some .local) (hc : Names X x c)
    (hb : ∀ (W : WX) (pn : List (Addr × Obj)) (xe : Value → Shared → Prop), Takes (X.tr pn xe) W → PassesOwn (model X.prog X.w) X.A X.env xe → PSs (X.tr pn xe) body (tb W))
    (hsu : ∀ (a : Addr) (oe : Obj) (cls : Value) (d : Option Addr) (pn : List (Addr × Obj)), Zc cls d oe → (∃ vs, oe.data = .fields vs) → PSs (X.suite a ((a, oe) :: pn)) (b₀ :: suite) (ts a cls d)) :
    PS X (.Try body (.ExceptHandler (some (.Name x np)) (some n) (b₀ :: suite) pos' :: hds) [] [] pos) (fun D σ H => tb (wAs1 X.K c i ts D) D σ H) := by
  refine ⟨fun pins s σ H D I h => ?_⟩
  have ok := I.ok
  have hfr : X.A.frames = some (X.env :: X.outer) := by rw [ok.frames, hs]
  have hloc : Loc X.env.scope n := .inl hln
  refine wpAny_Try_except ?_
  refine wpAny_mono ((hb (wAs1 X.K c i ts D) (X.pn ++ pins) (fun e s₁ => wpAny (model X.prog X.w) X.A (noteFrame e X.env) (fun _ s₂ => wpAny (model X.prog X.w) X.A (setFlight e none) (fun _ s₃ =>
    wpAny (model X.prog X.w) X.A (handleBy e X.env (.ExceptHandler (some (.Name x np)) (some n) (b₀ :: suite) pos' :: hds)) (SP X pins D) X.xe s₃) X.xe s₂) X.xe s₁) (fun u s' xx => ?_) PassesOwn.looking).run [] s σ H D (I.toTry _) h) (fun f s1 hsp => ?_) (fun e s1 he => he)
  · obtain ⟨a, B, sI, pins', σ', H', cls, d, rfl, J', nb, up, sky, na, os, ag, hb1, hyes⟩ := xx
    have J : Inv X pins σ' H' sI := J'.ofTry ok
    have sky' : Sky B (X.env :: X.outer) a (Zc cls d) X.env.locals s'.heap := by rw [← hs]; exact sky
    show wpAny (model X.prog X.w) X.A (noteFrame (.ref a) X.env) _ _ _
    refine Sky.land Zc.steady hfr hf sky' fun h3 fl3 up3 => ?_
    have J3 : Inv X pins σ' H' { s' with heap := h3 } := J.landed nb fl3.1 (up.trans up3) os ag
    obtain ⟨oe3, vs3, he3, hz3, hd3⟩ := fl3.there
    have notFr : ∀ {h : Heap} {o : Obj} {vs : Array Value}, h.FunFrames B (X.env :: X.outer) → h.get? a = some o → o.data = .fields vs → a ∉ frs (X.env :: X.outer) := fun {h o vs} ff e dd hm => by
      obtain ⟨_, o', e', hnf⟩ := ff.mem hm
      rw [e] at e'; cases e'
      exact hnf _ dd
    have nfr := notFr fl3.2.2.1 he3 hd3
    have nL : a ≠ X.env.locals := fun z => nfr (List.mem_filterMap.mpr ⟨X.env, List.mem_cons_self, by rw [hf, z]⟩)
    have nF : a ∉ X.fs := fun hm => by
      obtain ⟨e, he, q⟩ := List.mem_filterMap.mp hm
      exact nfr (List.mem_filterMap.mpr ⟨e, List.mem_cons_of_mem _ he, q⟩)
    have S3 := J3.suite he3 hd3 na nL nF
    refine wpAny_handleBy_cons (codeAny_handlers_test ?_) (by intro q; cases q)
    have LT : PySem.W.Looks (model X.prog X.w) h3 (typeOf (.ref a)) cls := fun A Q E s k q => wpAny_typeOf_ref (k _ _ he3) (by rw [hz3.1]; exact q)
    have LM := PySem.W.exm_one (M := model X.prog X.w) (J3.kIn) LT hb1
    have test : ∀ {Q : Value → Shared → Prop} {E : Value → Shared → Prop}, Q c { s' with heap := h3 } → wpAny (model X.prog X.w) (X.A.mark (some (.ref a))) (eval (.Name x np) X.env) Q E { s' with heap := h3 } := fun {Q E} q => by
      obtain ⟨hg, hdbg, hm | ⟨hm, hv, hnn⟩⟩ := hc
      · exact ld_glob (X := X.suite a ((a, oe3) :: (X.pn ++ pins))) S3 hg hm q hdbg
      · exact ld_blt (X := X.suite a ((a, oe3) :: (X.pn ++ pins))) S3 hg hm hv q hnn hdbg
    refine test (LM.here ?_)
    refine codeAny_handlers_suite_as ?_
    refine HandSPX.lands_againZ fl3 fun h4 fl4 up4 => ?_
    have J4 : Inv X pins σ' H' { s' with heap := h4 } := J.landed nb fl4.1 ((up.trans up3).trans up4) os ag
    obtain ⟨oe4, vs4, he4, hz4, hd4⟩ := fl4.there
    have S4 := J4.suite he4 hd4 na nL nF
    refine store_ok (X := X.suite a ((a, oe4) :: (X.pn ++ pins))) (v := .ref a) S4 hN hi hloc rfl (fun s5 S5 => ?_) (.inr hln)
    refine wpAny_mono ((hsu a oe4 cls d (X.pn ++ pins) hz4 ⟨_, hd4⟩).run [] s5 _ H' _ S5 (hyes a na)) (fun f s6 hsp => ?_) (fun _ _ z => False.elim z)
    have end_ : ∀ {σ6 : St} {H6 : Hp} {Q : Shared → Prop}, Inv (X.suite a ((a, oe4) :: (X.pn ++ pins))) [] σ6 H6 s6 → (∀ s7, Inv X pins (σ6.set i none) H6 s7 → Q s7) →
        wpAny (model X.prog X.w) X.A (do bindName X.env n .none; unbindBehindTheSuite X.env n pos') (fun _ s7 => Q s7) X.xe s6 := fun {σ6 H6 Q} S6 hq => gone_ok (S6.unsuite ok) hN hi hln hq
    cases f with
    | next =>
      obtain ⟨σ6, H6, S6, q6⟩ := hsp
      exact end_ S6 fun s7 J7 => ⟨_, _, J7, q6⟩
    | brk =>
      obtain ⟨σ6, H6, S6, q6⟩ := hsp
      exact end_ S6 fun s7 J7 => ⟨_, _, J7, q6⟩
    | cont =>
      obtain ⟨σ6, H6, S6, q6⟩ := hsp
      exact end_ S6 fun s7 J7 => ⟨_, _, J7, q6⟩
    | ret u =>
      obtain ⟨v6, σ6, H6, S6, r6, q6⟩ := hsp
      exact end_ S6 fun s7 J7 => ⟨_, _, _, J7, r6, q6⟩
  · cases f with
    | next =>
      obtain ⟨σ', H', J', q⟩ := hsp
      exact wpAny_execs_nil ⟨σ', H', J'.ofTry ok, q⟩
    | brk =>
      obtain ⟨σ', H', J', q⟩ := hsp
      exact ⟨σ', H', J'.ofTry ok, q⟩
    | cont =>
      obtain ⟨σ', H', J', q⟩ := hsp
      exact ⟨σ', H', J'.ofTry ok, q⟩
    | ret u =>
      obtain ⟨v, σ', H', J', r, q⟩ := hsp
      exact ⟨v, σ', H', J'.ofTry ok, r, q⟩
end
end L2
set_option Elab.async false
set_option linter.all false
set_option maxRecDepth 100000
set_option maxHeartbeats 4000000
namespace K65
open PySem PySem.Spec PyProof.Rows L2
/-- the class NotUsable at U, its __init__ at fI -/
structure NUT (K : PySem.W.Frag) (mg : Str → Option Value) (U fI : Addr) : Prop where
  gU : mg "NotUsable" = some (.ref U)
  ox : OexC K U
  xf : XfC K U
  nw : PySem.W.findIn K (.ref U) "word" = some none
  na : PySem.W.findIn K (.ref U) "at" = some none
  iC : PySem.W.findIn K (.ref U) "__init__" = some (some (.ref fI))
  tI : PySem.W.typeIn K (.ref fI) = some (.type "function")
  te : PySem.W.exmOne K (.ref U) (.ref U) = some true
  fn : ∃ fd, Fun K "__init__" "NotUsable.__init__" s_NotUsable_init fI fd ∧ Binds K fd ["self", "word", "at"] []
section
variable {P : Program} {w : World} {K : PySem.W.Frag} {mg : Str → Option Value} {base : Heap} {U fI : Addr}
/-! ### NotUsable.__init__ -/
def hInit (U a dx : Addr) (z : Str) (i : Int) (H : Hp) : Hp := upd (upd (upd H dx (exd dx [("word", .str z)])) a (exo a U (some dx))) dx (exd dx [("at", .int i), ("word", .str z)])
def spNU (U : Addr) : Sp := fun vs H Q _ => ∃ (a : Addr) (z : Str) (i : Int), vs = [.ref a, .str z, .int i] ∧ H a = some (exo a U none) ∧ ∀ dx, H dx = none → dx ≠ a → Q .non (hInit U a dx z i H)
theorem ok_nu (T : NUT K mg U fI) : ∃ fd, FnOk P w K mg base CX0 1 fI fd ["self", "word", "at"] (spNU U) ∧ Binds K fd ["self", "word", "at"] [] := by
  obtain ⟨fd, F, b⟩ := T.fn
  refine ⟨fd, F.ok sc_NotUsable_init (fun vs H Q E h => ?_) (fun cdv A outer s H vs Q E hr h => ?_), b⟩
  · obtain ⟨a, z, i, rfl, _⟩ := h
    rfl
  obtain ⟨a, z, i, rfl, ha, q⟩ := h
  refine ⟨_, pss_cons (ps_ost (pv 0) (pv 1)) (pss_one (ps_ost (pv 0) (pv 2))), ?_⟩
  refine ⟨_, rfl, _, rfl, a, U, rfl, T.ox, T.nw, .inl ⟨ha, fun dx hdx hne => ?_⟩⟩
  refine ⟨_, rfl, _, rfl, a, U, rfl, T.ox, T.na, .inr ⟨dx, [("word", .str z)], upd_same, ?_, (by show 1 ≤ 900; decide), ?_⟩⟩
  · rw [upd_ne hne, upd_same]
  · exact q dx hdx hne
/-! ### is_integer, is_number, is_below -/
theorem ok_integer (D : DefAt K mg "is_integer" s_is_integer ["thing"]) (T : Txt K mg) : CalX P w K mg base CX0 1 "is_integer" ["thing"] (spInteger K) := by
  obtain ⟨f, fd, F, m, b⟩ := D.ex
  exact ⟨f, fd, ok_is_integer F T, m, F.kp, b, fun_lk F⟩
def numB : Option Int → Bool
  | some i => decide (0 ≤ i)
  | none => false
def spNumber (K : PySem.W.Frag) : Sp := fun vs H Q _ => ∃ x o, vs = [x] ∧ NumV K H x o ∧ Q (.bl (numB o)) H
theorem ok_number (D : DefAt K mg "is_number" s_is_number ["thing"]) (GI : CalX P w K mg base CX0 1 "is_integer" ["thing"] (spInteger K)) : CalX P w K mg base CX0 2 "is_number" ["thing"] (spNumber K) := by
  refine D.ok sc_is_number (fun vs H Q E h => ?_) (fun f cdv A outer s H vs Q E hr h => ?_)
  · obtain ⟨x, o, rfl, _⟩ := h
    rfl
  obtain ⟨x, o, rfl, hx, q⟩ := h
  refine ⟨_, pss_one (ps_ret (pe_and (pe_c0 GI hr (by decide) rfl (pa_cons (pv 0) pa_nil)) (pe_one (pe_cmpR op_ge (pv 0) pe_int (nomark _))))), ?_⟩
  refine ⟨_, rfl, x, o, rfl, hx, _, rfl, ?_⟩
  cases o with
  | none => exact iteF q
  | some i =>
    obtain rfl : x = .int i := hx
    exact iteT ⟨_, rfl, _, _, rfl, rfl, q⟩
def belowB (n : Int) : Option Int → Bool
  | some i => decide (0 ≤ i) && decide (i < n)
  | none => false
def spBelow (K : PySem.W.Frag) : Sp := fun vs H Q _ => ∃ (x : V) (o : Option Int) (n : Int), vs = [x, .int n] ∧ NumV K H x o ∧ Q (.bl (belowB n o)) H
theorem ok_below (D : DefAt K mg "is_below" s_is_below ["thing", "bound"]) (GN : CalX P w K mg base CX0 2 "is_number" ["thing"] (spNumber K)) : CalX P w K mg base CX0 3 "is_below" ["thing", "bound"] (spBelow K) := by
  refine D.ok sc_is_below (fun vs H Q E h => ?_) (fun f cdv A outer s H vs Q E hr h => ?_)
  · obtain ⟨x, o, n, rfl, _⟩ := h
    rfl
  obtain ⟨x, o, n, rfl, hx, q⟩ := h
  refine ⟨_, pss_one (ps_ret (pe_and (pe_c0 GN hr (by decide) rfl (pa_cons (pv 0) pa_nil)) (pe_one (pe_cmpR op_lt (pv 0) (pv 1) (nomark _))))), ?_⟩
  refine ⟨_, rfl, x, o, rfl, hx, _, rfl, ?_⟩
  cases o with
  | none => exact iteF q
  | some i =>
    obtain rfl : x = .int i := hx
    cases e : numB (some i) with
    | false =>
      refine iteF ?_
      have e2 : belowB n (some i) = false := by
        show (decide (0 ≤ i) && decide (i < n)) = false
        rw [show decide (0 ≤ i) = false from e, Bool.false_and]
      rw [e2] at q
      exact q
    | true =>
      refine iteT ⟨_, rfl, _, rfl, _, _, rfl, rfl, ?_⟩
      have e2 : belowB n (some i) = decide (i < n) := by
        show (decide (0 ≤ i) && decide (i < n)) = decide (i < n)
        rw [show decide (0 ≤ i) = true from e, Bool.true_and]
      rw [e2] at q
      exact q
/-! ### need -/
/-- the dict of the error -/
def xdO (z : Str) (i : Int) : HO := .xd [("at", .int i), ("word", .str z)]
def spNeed (U : Addr) : Sp := fun vs H Q E => ∃ (b : Bool) (z : Str), vs = [.bl b, .str z] ∧ (b = true → Q .non H) ∧ (b = false → ∀ d, H d = none → E (.ref U) (some d) (upd H d (xdO z (-1))))
theorem ok_need (D : DefAt K mg "need" s_need ["fits", "word"]) (T : NUT K mg U fI) : CalX P w K mg base (L2.CX P w) 3 "need" ["fits", "word"] (spNeed U) := by
  refine D.okX sc_need (fun vs H Q E h => ?_) (fun f cdv A outer s H vs Q E hr h => ?_)
  · obtain ⟨b, z, rfl, _⟩ := h
    rfl
  obtain ⟨b, z, rfl, q1, q2⟩ := h
  obtain ⟨fdI, FI, bI⟩ := ok_nu (P := P) (w := w) (base := base) T
  refine ⟨_, pss_one (ps_if (pt_not (pt_val (pv 0))) (pss_one (ps_raise rfl (takes_of rfl rfl rfl rfl) (pmk_oex T.ox T.iC T.tI FI hr bI .nil pass0 rfl T.gU (pa_cons (pv 1) (pa_cons (pe_un un_neg pe_int) pa_nil))))) pss_nil), ?_⟩
  refine ⟨_, rfl, b, rfl, ?_⟩
  cases b with
  | true => exact iteF (q1 rfl)
  | false =>
    refine iteT ?_
    refine ⟨_, rfl, 1, rfl, (by show 2 ≤ 1000; decide), fun a ha => ?_⟩
    refine ⟨a, z, -1, rfl, upd_same, fun dx hdx hne => ⟨rfl, dx, [("at", .int (-1)), ("word", .str z)], ?_, upd_same, ?_, ?_⟩⟩
    · show hInit U a dx z (-1) (upd H a (exo a U none)) a = _
      unfold hInit
      rw [upd_ne (Ne.symm hne), upd_same]
    · rw [upd_ne hne] at hdx
      exact hdx
    · have e : upd (del (hInit U a dx z (-1) (upd H a (exo a U none))) a) dx (.xd [("at", .int (-1)), ("word", .str z)]) = upd H dx (xdO z (-1)) := by
        funext y
        unfold hInit xdO
        by_cases h1 : y = dx
        · rw [h1, upd_same, upd_same]
        · rw [upd_ne h1, upd_ne h1]
          by_cases h2 : y = a
          · rw [h2, del_same, ha]
          · rw [del_ne h2, upd_ne h1, upd_ne h2, upd_ne h1, upd_ne h2]
      rw [e]
      rw [upd_ne hne] at hdx
      exact q2 rfl dx hdx
end
end K65
set_option Elab.async false
set_option linter.all false
set_option maxRecDepth 100000
set_option maxHeartbeats 4000000
namespace K65
open PySem PySem.Spec PyProof.Rows L2
/-! ### shapes: a tuple is the list of its children -/
/-- o: no (further) child; c k r: the child k, then those of r; x: a value that is no tuple -/
inductive Dt | x | o | c (k r : Dt)
namespace Dt
def len : Dt → Nat | c _ r => r.len + 1 | _ => 0
def size : Dt → Nat | c k r => k.size + r.size + 1 | _ => 1
def isx : Dt → Bool | x => true | _ => false
/-- the children as a list -/
def kids : Dt → List Dt | c k r => k :: r.kids | _ => []
/-- all is well at this node -/
def here (least : Nat) (t : Dt) : Bool := !t.isx && decide (t.len ≤ 6) && !(decide (0 < t.len) && decide (t.len < least))
/-- all is well at all nodes of the children -/
def deep (least : Nat) : Dt → Bool | c k r => here least k && deep least k && deep least r | _ => true
def good (least : Nat) (t : Dt) : Bool := here least t && deep least t
theorem kids_len : ∀ t : Dt, t.kids.length = t.len | x => rfl | o => rfl | c _ r => congrArg (· + 1) (kids_len r)
theorem kids_good (l : Nat) : ∀ t : Dt, deep l t = t.kids.all (good l)
  | x => rfl
  | o => rfl
  | c k r => by
    show (here l k && deep l k && deep l r) = ((here l k && deep l k) && r.kids.all (good l))
    rw [kids_good l r]
theorem size_pos : ∀ t : Dt, 1 ≤ t.size | x => Nat.le_refl 1 | o => Nat.le_refl 1 | c _ _ => Nat.le_add_left 1 _
def sizes (l : List Dt) : Nat := (l.map size).sum
theorem sizes_kids : ∀ t : Dt, sizes t.kids + 1 ≤ t.size + t.len
  | x => Nat.le_refl 1
  | o => Nat.le_refl 1
  | c k r => by
    have q := sizes_kids r
    show (k.size + sizes r.kids) + 1 ≤ k.size + r.size + 1 + (r.len + 1)
    omega
end Dt
/-- the values of a row -/
inductive DtF (K : PySem.W.Frag) (H : Hp) : List V → Dt → Prop
  | nil : DtF K H [] .o
  | bad {v : V} {ws : List V} {r : Dt} {t : String} (h : KindV K H v t) (n : t ≠ "tuple") (q : DtF K H ws r) : DtF K H (v :: ws) (.c .x r)
  | tup {a : Addr} {vs ws : List V} {k r : Dt} (h : SqT K H a vs) (p : DtF K H vs k) (q : DtF K H ws r) : DtF K H (.ref a :: ws) (.c k r)
/-- one value -/
def DtV (K : PySem.W.Frag) (H : Hp) (v : V) (t : Dt) : Prop := (t = .x ∧ ∃ s, KindV K H v s ∧ s ≠ "tuple") ∨ ∃ a vs, v = .ref a ∧ SqT K H a vs ∧ DtF K H vs t
theorem tyx_tup {K : PySem.W.Frag} {H : Hp} {a : Addr} {xs : List V} (h : SqT K H a xs) : TyX K H (.ref a) (.type "tuple") := by
  rcases h with (h | ⟨o, h⟩) | ⟨o, its, n, h1, h2, _⟩
  · exact .base (.tup h)
  · exact .fTuple h
  · exact .kTuple h1 h2
theorem kind_sqt {K : PySem.W.Frag} {H : Hp} {a : Addr} {xs : List V} (h : SqT K H a xs) : KindV K H (.ref a) "tuple" := ⟨tyx_tup h, by simp⟩
theorem DtF.no_x {K : PySem.W.Frag} {H : Hp} {vs : List V} {t : Dt} (h : DtF K H vs t) : t.isx = false := by
  cases h <;> rfl
theorem DtF.len {K : PySem.W.Frag} {H : Hp} : ∀ {vs : List V} {t : Dt}, DtF K H vs t → vs.length = t.len
  | _, _, .nil => rfl
  | _, _, .bad _ _ q => congrArg (· + 1) q.len
  | _, _, .tup _ _ q => congrArg (· + 1) q.len
theorem DtF.kids {K : PySem.W.Frag} {H : Hp} : ∀ {vs : List V} {t : Dt}, DtF K H vs t → Paired (DtV K H) vs t.kids
  | _, _, .nil => .nil
  | _, _, .bad h n q => .cons (.inl ⟨rfl, _, h, n⟩) q.kids
  | _, _, .tup h p q => .cons (.inr ⟨_, _, rfl, h, p⟩) q.kids
theorem same_sqt {K : PySem.W.Frag} {H H' : Hp} {a : Addr} {xs : List V} (e : Same H H') (h : SqT K H a xs) : SqT K H' a xs := by
  rcases h with (h | ⟨o, h⟩) | h
  · exact .inl (.inl (e _ _ h))
  · exact .inl (.inr ⟨o, e _ _ h⟩)
  · exact .inr h
theorem same_kind {K : PySem.W.Frag} {H H' : Hp} {v : V} {t : String} (e : Same H H') (h : KindV K H v t) : KindV K H' v t := by
  obtain ⟨h, z⟩ := h
  refine ⟨?_, z⟩
  cases h with
  | base h =>
    cases h with
    | non => exact .base .non
    | bl b => exact .base (.bl b)
    | int i => exact .base (.int i)
    | str s => exact .base (.str s)
    | flt s => exact .base (.flt s)
    | lst h => exact .base (.lst (e _ _ h))
    | frz h => exact .base (.frz (e _ _ h))
    | tup h => exact .base (.tup (e _ _ h))
    | dK h => exact .base (.dK (e _ _ h))
    | dT h => exact .base (.dT (e _ _ h))
  | byt b => exact .byt b
  | set h => exact .set (e _ _ h)
  | kList a b => exact .kList a b
  | kTuple a b => exact .kTuple a b
  | kDict a b => exact .kDict a b
  | fTuple h => exact .fTuple (e _ _ h)
  | fDict h => exact .fDict (e _ _ h)
theorem same_dtf {K : PySem.W.Frag} {H H' : Hp} (e : Same H H') : ∀ {vs : List V} {t : Dt}, DtF K H vs t → DtF K H' vs t
  | _, _, .nil => .nil
  | _, _, .bad h n q => .bad (same_kind e h) n (same_dtf e q)
  | _, _, .tup h p q => .tup (same_sqt e h) (same_dtf e p) (same_dtf e q)
theorem same_dtv {K : PySem.W.Frag} {H H' : Hp} {v : V} {t : Dt} (e : Same H H') (h : DtV K H v t) : DtV K H' v t := by
  rcases h with ⟨a, s, b, c⟩ | ⟨a, vs, b, c, d⟩
  · exact .inl ⟨a, s, same_kind e b, c⟩
  · exact .inr ⟨a, vs, b, same_sqt e c, same_dtf e d⟩
theorem Paired.mono {α β : Type} {F G : α → β → Prop} (h : ∀ a b, F a b → G a b) : ∀ {l₁ : List α} {l₂ : List β}, Paired F l₁ l₂ → Paired G l₁ l₂
  | _, _, .nil => .nil
  | _, _, .cons r t => .cons (h _ _ r) (Paired.mono h t)
theorem Paired.app {α β : Type} {F : α → β → Prop} : ∀ {l₁ m₁ : List α} {l₂ m₂ : List β}, Paired F l₁ l₂ → Paired F m₁ m₂ → Paired F (l₁ ++ m₁) (l₂ ++ m₂)
  | _, _, _, _, .nil, s => s
  | _, _, _, _, .cons r t, s => .cons r (Paired.app t s)
theorem Paired.len {α β : Type} {F : α → β → Prop} : ∀ {l₁ : List α} {l₂ : List β}, Paired F l₁ l₂ → l₁.length = l₂.length
  | _, _, .nil => rfl
  | _, _, .cons _ t => congrArg (· + 1) (Paired.len t)
/-- the last pair -/
theorem Paired.last {α β : Type} {F : α → β → Prop} {l₁ : List α} {l₂ : List β} (h : Paired F l₁ l₂) (n : l₁ ≠ []) : ∃ a b l m, l₁ = l ++ [a] ∧ l₂ = m ++ [b] ∧ F a b ∧ Paired F l m := by
  induction h with
  | nil => exact absurd rfl n
  | @cons a b l m r t ih =>
    cases t with
    | nil => exact ⟨a, b, [], [], rfl, rfl, r, .nil⟩
    | @cons a' b' l' m' r' t' =>
      obtain ⟨x, y, p, q, e1, e2, f, g⟩ := ih (by simp)
      exact ⟨x, y, a :: p, b :: q, by rw [e1] <;> rfl, by rw [e2] <;> rfl, f, .cons r g⟩
section
variable {P : Program} {w : World} {K : PySem.W.Frag} {mg : Str → Option Value} {base : Heap}
theorem same_new {H : Hp} {p : Addr} {o : HO} (h : H p = none) : Same H (upd H p o) := fun b u q => by rw [upd_ne (ne_of_none q h)]; exact q
/-- a new object changes -/
theorem same_mut {H H' : Hp} {p : Addr} {o : HO} (e : Same H H') (h : H p = none) : Same H (upd H' p o) := fun a u ha => by
  rw [upd_ne (ne_of_none ha h)]
  exact e a u ha
/-! ### has_forks_of -/
def spForks (K : PySem.W.Frag) : Sp := fun vs H Q _ => ∃ (v : V) (t : Dt) (least : Nat), vs = [v, .int least] ∧ DtV K H v t ∧ t.size ≤ 100000 ∧ ∀ H', Same H H' → Q (.bl (t.good least)) H'
theorem ok_forks (D : DefAt K mg "has_forks_of" s_has_forks_of ["thing", "least"]) (T : Txt K mg) (mk : ∃ t, mg "MOST_CHILDREN" = some (.int 6 t)) : CalX P w K mg base CX0 1 "has_forks_of" ["thing", "least"] (spForks K) := by
  obtain ⟨tk, mk⟩ := mk
  refine D.ok sc_has_forks_of (fun vs H Q E h => ?_) (fun f cdv A outer s H vs Q E hr h => ?_)
  · obtain ⟨v, t, l, rfl, _⟩ := h
    rfl
  obtain ⟨v, t, least, rfl, hv, hs, q⟩ := h
  refine ⟨_, pss_cons (ps_set (i := 2) sc_has_forks_of.nd rfl (.inl rfl) (pe_lst (pa_cons (pv 0) pa_nil)))
    (pss_cons (ps_while PassesOwn.never (pt_truth (pv 2) (by intro _; rfl))
      (pss_cons (ps_set (i := 3) sc_has_forks_of.nd rfl (.inl rfl) (pe_bm0 PySem.F.plainAttrs_list PySem.F.slot_list_pop PySem.F.type_list_pop mt_pop (pv 2)))
      (pss_cons (ps_if (PW.pt (pw_or (pt_not (pt_val (pe_callB call_isi (by rfl) T.isinstance boot_isinstance (pa_cons (pv 3) (pa_cons (pe_bltn (v := .ty "tuple") (by rfl) T.tuple PyProof.Rows.boot_tuple rfl) pa_nil)))))
          (pw_or1 (pt_cmpR op_gt (pe_callB call_len_seq (by rfl) T.len PySem.boot_len (pa_cons (pv 3) pa_nil)) (pe_glob (v := .int 6) (by rfl) mk ⟨_, rfl⟩) (nomark _))))) (pss_one (ps_ret pe_bl)) pss_nil)
      (pss_cons (ps_if (pt_chain op_lt op_lt pe_int (pe_callB call_len_seq (by rfl) T.len PySem.boot_len (pa_cons (pv 3) pa_nil)) (pv 1)) (pss_one (ps_ret pe_bl)) pss_nil)
      (pss_one (ps_expr (pe_bm PySem.F.plainAttrs_list PySem.F.slot_list_extend PySem.F.type_list_extend mt_extendT (pv 2) (pa_cons (pv 3) pa_nil))))))))
    (pss_one (ps_ret pe_bl))), ?_⟩
  refine ⟨_, rfl, (by show 1 ≤ sizeLine; decide), fun l hl => ?_⟩
  refine ⟨fun m σ H' => ∃ (xs : List V) (ds : List Dt) (pv : Option V), σ = [some v, some (.int least), some (.ref l), pv] ∧ Same H H' ∧ H' l = some (.lst xs) ∧ Paired (DtV K H) xs ds ∧ m = Dt.sizes ds ∧ Dt.sizes ds ≤ 100000 ∧ t.good least = ds.all (Dt.good least),
    ⟨Dt.sizes [t], [v], [t], none, rfl, same_new hl, upd_same, .cons hv .nil, rfl, (by show t.size + 0 ≤ 100000; omega), by simp⟩, fun m σ H' hW => ?_⟩
  obtain ⟨xs, ds, pv, rfl, sm, hL, hp, rfl, hz, hg⟩ := hW
  have hlen := Paired.len hp
  refine ⟨_, rfl, !xs.isEmpty, .inl ⟨xs, .inl (.inl hL), rfl⟩, ?_⟩
  cases xs with
  | nil =>
    cases hp
    refine iteF ?_
    rw [show t.good least = true from hg] at q
    exact q H' sm
  | cons x0 xr =>
    refine iteT ?_
    obtain ⟨a, b, l1, m1, e1, e2, hab, hlm⟩ := Paired.last hp (by simp)
    rw [e1] at hL hlen
    rw [e2] at hz hg hlen ⊢
    have es : Dt.sizes (m1 ++ [b]) = Dt.sizes m1 + b.size := by simp [Dt.sizes]
    have eg : (m1 ++ [b]).all (Dt.good least) = (m1.all (Dt.good least) && Dt.good least b) := by simp
    refine ⟨_, fun _ _ z => z, ?_⟩
    -- part = left.pop()
    refine ⟨_, rfl, .inl ⟨rfl, _, .inl (.inl hL)⟩, l, _, a, rfl, rfl, hL, by simp, ?_⟩
    rw [List.dropLast_concat]
    have sm1 : Same H (upd H' l (.lst l1)) := same_mut sm hl
    have bad : Dt.here least b = false → t.good least = false := fun z => by
      rw [hg, eg]
      unfold Dt.good
      rw [z]
      simp
    rcases hab with ⟨rfl, s', hk, hn⟩ | ⟨ad, vs', rfl, hS, hF⟩
    · -- no tuple
      have hk' := same_kind sm1 hk
      have e3 : (s' == "tuple") = false := by simpa using hn
      refine isi_read rfl hk'.1 (kit_tup hk'.2) ⟨_, rfl, ?_⟩
      rw [e3]
      refine iteT (iteT ?_)
      rw [bad rfl] at q
      exact q _ sm1
    · have hS' := same_sqt sm1 hS
      refine isi_read rfl (tyx_tup hS') (kit_tup (t := "tuple") (by simp)) ⟨_, rfl, ?_⟩
      refine iteF ?_
      have lk := hF.len
      refine ⟨_, rfl, ad, vs', rfl, .inr hS', _, _, rfl, rfl, _, rfl, ?_⟩
      refine ite2 (fun c => ?_) (fun c => ?_)
      · have c' : (6 : Int) < (vs'.length : Int) := of_decide_eq_true c
        rw [bad ?_] at q
        · exact q _ sm1
        · unfold Dt.here
          rw [show decide (b.len ≤ 6) = false from decide_eq_false (by omega)]
          simp
      · have c' : ¬ (6 : Int) < (vs'.length : Int) := fun z => c (decide_eq_true z)
        have h6 : decide (b.len ≤ 6) = true := decide_eq_true (by omega)
        have nx : b.isx = false := hF.no_x
        have skids : ∀ b' : Dt, Dt.sizes b'.kids < b'.size := fun b' => by
          induction b' with
          | x => exact Nat.lt_succ_self 0
          | o => exact Nat.lt_succ_self 0
          | c k r _ ih =>
            show k.size + Dt.sizes r.kids < k.size + r.size + 1
            omega
        have sk := skids b
        have ek : Dt.sizes (m1 ++ b.kids) = Dt.sizes m1 + Dt.sizes b.kids := by simp [Dt.sizes]
        have hlm' := Paired.len hlm
        have lsz : ∀ ds : List Dt, ds.length ≤ Dt.sizes ds := fun ds => by
          induction ds with
          | nil => exact Nat.le_refl 0
          | cons d ds ih =>
            have := d.size_pos
            show ds.length + 1 ≤ d.size + Dt.sizes ds
            omega
        have l1z := lsz m1
        have l2z := lsz b.kids
        have lk2 := b.kids_len
        have g2 : Dt.here least b = true → t.good least = (m1 ++ b.kids).all (Dt.good least) := fun z => by
          rw [hg, eg]
          unfold Dt.good
          rw [z, List.all_append, Dt.kids_good]
          rfl
        have sz : l1.length + vs'.length ≤ sizeLine := by
          rw [sizeLine_eq]
          omega
        refine ⟨_, rfl, ad, vs', rfl, .inr hS', _, _, rfl, rfl, _, rfl, ?_⟩
        refine ite2 (fun c1 => ?_) (fun c1 => ?_)
        · have c1' : (0 : Int) < (vs'.length : Int) := of_decide_eq_true c1
          refine ⟨_, rfl, _, _, rfl, rfl, _, rfl, ?_⟩
          refine ite2 (fun c2 => ?_) (fun c2 => ?_)
          · have c2' : (vs'.length : Int) < (least : Int) := of_decide_eq_true c2
            rw [bad ?_] at q
            · exact q _ sm1
            · unfold Dt.here
              rw [decide_eq_true (show 0 < b.len by omega), decide_eq_true (show b.len < least by omega)]
              simp
          · have c2' : ¬ (vs'.length : Int) < (least : Int) := fun z => c2 (decide_eq_true z)
            have hh : Dt.here least b = true := by
              unfold Dt.here
              rw [nx, h6, decide_eq_false (show ¬ b.len < least by omega)]
              simp
            refine ⟨_, rfl, .inl ⟨rfl, _, .inl (.inl upd_same)⟩, _, rfl, l, ad, l1, vs', rfl, rfl, upd_same, hS', sz, ?_⟩
            refine ⟨_, by omega, l1 ++ vs', m1 ++ b.kids, _, rfl, same_mut sm1 hl, upd_same, Paired.app hlm hF.kids, rfl, by omega, g2 hh⟩
        · have c1' : ¬ (0 : Int) < (vs'.length : Int) := fun z => c1 (decide_eq_true z)
          refine ⟨_, rfl, ?_⟩
          refine iteF ?_
          have hh : Dt.here least b = true := by
            unfold Dt.here
            rw [nx, h6, decide_eq_false (show ¬ 0 < b.len by omega)]
            simp
          refine ⟨_, rfl, .inl ⟨rfl, _, .inl (.inl upd_same)⟩, _, rfl, l, ad, l1, vs', rfl, rfl, upd_same, hS', sz, ?_⟩
          refine ⟨_, by omega, l1 ++ vs', m1 ++ b.kids, _, rfl, same_mut sm1 hl, upd_same, Paired.app hlm hF.kids, rfl, by omega, g2 hh⟩
/-! ### is_shape, need_shape -/
def spIsShape (K : PySem.W.Frag) : Sp := fun vs H Q _ => ∃ (v : V) (t : Dt), vs = [v] ∧ DtV K H v t ∧ t.size ≤ 100000 ∧ ∀ H', Same H H' → Q (.bl (t.good 1)) H'
theorem ok_isShape (D : DefAt K mg "is_shape" s_is_shape ["thing"]) (G : CalX P w K mg base CX0 1 "has_forks_of" ["thing", "least"] (spForks K)) : CalX P w K mg base CX0 2 "is_shape" ["thing"] (spIsShape K) := by
  refine D.ok sc_is_shape (fun vs H Q E h => ?_) (fun f cdv A outer s H vs Q E hr h => ?_)
  · obtain ⟨v, t, rfl, _⟩ := h
    rfl
  obtain ⟨v, t, rfl, hv, hz, q⟩ := h
  refine ⟨_, pss_one (ps_ret (pe_c0 G hr (by decide) rfl (pa_cons (pv 0) (pa_cons pe_int pa_nil)))), ?_⟩
  exact ⟨_, rfl, v, t, 1, rfl, hv, hz, q⟩
def spNeedShape (K : PySem.W.Frag) (U : Addr) : Sp := fun vs H Q E => ∃ (v : V) (t : Dt) (z : Str), vs = [v, .str z] ∧ DtV K H v t ∧ t.size ≤ 100000 ∧
  (t.good 1 = true → ∀ H', Same H H' → Q .non H') ∧ (t.good 1 = false → ∀ H' d, Same H H' → H' d = none → E (.ref U) (some d) (upd H' d (xdO z (-1))))
theorem ok_needShape {U : Addr} (D : DefAt K mg "need_shape" s_need_shape ["form", "word"]) (G : CalX P w K mg base CX0 2 "is_shape" ["thing"] (spIsShape K)) (GN : CalX P w K mg base (L2.CX P w) 3 "need" ["fits", "word"] (spNeed U)) :
    CalX P w K mg base (L2.CX P w) 4 "need_shape" ["form", "word"] (spNeedShape K U) := by
  refine D.okX sc_need_shape (fun vs H Q E h => ?_) (fun f cdv A outer s H vs Q E hr h => ?_)
  · obtain ⟨v, t, z, rfl, _⟩ := h
    rfl
  obtain ⟨v, t, z, rfl, hv, hz, q1, q2⟩ := h
  refine ⟨_, pss_one (ps_expr (pe_cx GN hr (by decide) rfl (passes_call (takes_of rfl rfl rfl rfl) (fun _ _ _ _ h => h)) (pa_cons (pe_c0 G hr (by decide) rfl (pa_cons (pv 0) pa_nil)) (pa_cons (pv 1) pa_nil)))), ?_⟩
  refine ⟨_, rfl, v, t, rfl, hv, hz, fun H' sm => ?_⟩
  exact ⟨_, rfl, _, z, rfl, fun e => q1 e H' sm, fun e d hd => q2 e H' d sm hd⟩
end
end K65
set_option Elab.async false
set_option linter.all false
set_option maxRecDepth 100000
set_option maxHeartbeats 4000000
namespace PySem
open Sem (wp)
open AutoSeq1 (wpAny_loadPart')
theorem meets_enumerate_newT (l : Addr) (ob : Obj) (items : Array Value) (n : Nat) (hc : ob.cls = .type "tuple") (hd : ob.data = .seq items n) :
    Meets (Builtin.«enumerate.__new__» ⟨[.type "enumerate", .ref l], []⟩) (fun _ R s => s.heap.get? l = some ob ∧
      R (.ok (.ret (.ref (s.heap.push { cls := .type "tuple_iterator", data := .fields #[.ref l, .int 0 0] }).objs.size)))
        { s with heap := (s.heap.push { cls := .type "tuple_iterator", data := .fields #[.ref l, .int 0 0] }).push { cls := .type "enumerate", data := .fields #[.none, .bool false, .ref s.heap.objs.size, rawInt 0, .none, .none] } }) :=
  .of_wp fun prog w A R s h => by
    obtain ⟨hp, g, d, tk, os⟩ := s; obtain ⟨hl, h⟩ := h
    have hsub := sub_enumerate
    have hL : Heap.IsTuple (Shared.heap ⟨hp, g, d, tk, os⟩) l items := ⟨_, hl, hc, n, hd⟩
    wp_walk using wpAny_loadPart' hl
    refine wpAny_stack_any fun st => wpAny_pure ?_
    split
    · rename_i c _ _ _ _ _
      cases (c == Value.type "enumerate")
      · wp_walk using wpAny_loadPart' hl, wpAny_pyIter_tuple hL
        exact ⟨_, rfl, h⟩
      · wp_walk using wpAny_loadPart' hl, wpAny_pyIter_tuple hL
        exact ⟨_, rfl, h⟩
    · wp_walk using wpAny_loadPart' hl, wpAny_pyIter_tuple hL
      exact ⟨_, rfl, h⟩
section
variable {prog : Program} {w : World} {A : Around} {E : Value → Shared → Prop} {s : Shared}
theorem call_enumerate_tup {l : Addr} {items : Array Value} {Q : Value → Shared → Prop} (hL : s.heap.IsTuple l items)
    (h : ∀ h', IsEnum h' (s.heap.objs.size + 1) s.heap.objs.size 0 .none → h'.IsTupleIter s.heap.objs.size l 0 → h'.objs.size = s.heap.objs.size + 2 →
      (∀ b o, s.heap.get? b = some o → h'.get? b = some o) → Q (.ref (s.heap.objs.size + 1)) { s with heap := h' }) :
    wpAny (model prog w) A (call (.type "enumerate") [.ref l]) Q E s := by
  obtain ⟨ob, hl, hc, n, hd⟩ := hL
  refine callType_new F.called_enumerate (by decide) (F.typeCall_enumerate_1 _) (F.newCall_enumerate_1 _) (fun obj => F.args_object_init_2 obj _) F.entry_enumerate_new
    (meets_enumerate_newT l ob items n hc hd) ⟨hl, ?_⟩
  have hz : (s.heap.push { cls := .type "tuple_iterator", data := .fields #[.ref l, .int 0 0] }).objs.size = s.heap.objs.size + 1 := Heap.size_push ..
  show _ ∧ _
  rw [hz]
  have he : IsEnum ((s.heap.push { cls := .type "tuple_iterator", data := .fields #[.ref l, .int 0 0] }).push
      { cls := .type "enumerate", data := .fields #[.none, .bool false, .ref s.heap.objs.size, rawInt 0, .none, .none] }) (s.heap.objs.size + 1) s.heap.objs.size 0 .none := by
    have := Heap.get?_push_size (s.heap.push { cls := .type "tuple_iterator", data := .fields #[.ref l, .int 0 0] })
      (o := { cls := .type "enumerate", data := .fields #[.none, .bool false, .ref s.heap.objs.size, rawInt 0, .none, .none] }) rfl
    rw [hz] at this; exact this
  refine ⟨⟨_, he, rfl⟩, h _ he ⟨_, Heap.get?_push_of_some _ (Heap.get?_push_size _ rfl), rfl, rfl⟩ (by rw [Heap.size_push, hz]) fun b o x => Heap.get?_push_of_some _ (Heap.get?_push_of_some _ x)⟩
end
end PySem
namespace L2
open PySem PySem.Spec PyProof.Rows
/-! ### enumerate(tuple) -/
def Itet (K : PySem.W.Frag) (a : Addr) : It :=
  ⟨fun i H => ∃ (xs : List V) (x : V), SqT K H a xs ∧ xs[i]? = some x, fun i H v H' => ∃ T x, v = .ref T ∧ H T = none ∧ H' = upd H T (.tup [.int (i : Nat), x]) ∧ ∀ xs, SqT K H a xs → xs[i]? = some x, fun i H => ∃ xs : List V, SqT K H a xs ∧ xs.length ≤ i⟩
theorem turn_enumT {P : Program} {w : World} {K : PySem.W.Frag} {elts : List Expr} {kk : Nat} {tpos : Pos} (a e it : Addr) :
    Turn P w K (.Tuple elts kk tpos) (Itet K a) [e, it] e (fun i h => (∃ old, IsEnum h e it ((i : Nat) : Int) old) ∧ h.IsTupleIter it a i ∧ e ≠ it ∧ a ≠ e ∧ a ≠ it) where
  mem := by simp
  obj := fun i h st b hb => by
    obtain ⟨⟨old, he⟩, ⟨o, ho, hc, hd⟩, _⟩ := st
    have e' : b = e ∨ b = it := by simpa using hb
    rcases e' with z | z
    · rw [z]; exact ⟨_, he, fun v q => nomatch q⟩
    · rw [z]; exact ⟨o, ho, fun v q => by rw [hd] at q; cases q⟩
  keep := fun i h h' st k => let ⟨⟨old, he⟩, hi, hne⟩ := st; ⟨⟨old, k e (by simp) _ he⟩, hi.at fun o q => k it (by simp) o q, hne⟩
  item := by
    intro X hP hw hK hc i pins s σ H E I hf st hg
    subst hP hw hK
    obtain ⟨⟨old, he⟩, hit, hne, hae, hai⟩ := st
    obtain ⟨xs, x, hq, hx⟩ := hg
    obtain ⟨its, rv, p, hz⟩ := I.tuple hq
    obtain ⟨u, hu, ru⟩ := rv.get hx
    have hel : e < s.heap.objs.size := Heap.lt_size he
    have hil : it < s.heap.objs.size := by obtain ⟨_, q, _⟩ := hit; exact Heap.lt_size q
    have hi : i < its.toArray.size := by
      rw [List.size_toArray]
      exact (List.getElem?_eq_some_iff.mp hu).1
    have D := Draws.tuple (prog := X.prog) (w := X.w) (A := X.A.in1) (I.ok.hd hc) it a hai its.toArray
    refine wpAny_pyNext_enum_itemD D he ⟨hit, p⟩ hi hne (by simp [Ne.symm hae, hne]) fun x' h' tk' hP ho hit' hT hsz hk => ?_
    refine ⟨_, rfl, wpAny_letOwnedTupleGo_enum (s := { s with heap := h', toks := tk' + 1 }) ho fun h'' he' sb => ?_⟩
    have eu : x' = u := by
      have e1 : its.toArray[i]? = some x' := hP
      have e2 : its.toArray[i]? = some u := by simpa using hu
      exact Option.some.inj (e1.symm.trans e2)
    subst eu
    have hT2 : h''.get? s.heap.objs.size = some { cls := .type "tuple", data := .seq #[.int i tk', x'] } := (sb.2 _ (Nat.ne_of_gt hel)).trans hT
    have new : ObjOk X.prog X.w (upd H s.heap.objs.size (.tup [.int (i : Nat), x])) h'' s.heap.objs.size (.tup [.int (i : Nat), x]) :=
      ⟨by show 2 ≤ sizeLine; decide, [.int i tk', x'], .cons ⟨_, rfl⟩ (.cons ru .nil), ⟨_, hT2, rfl, _, rfl⟩⟩
    have I1 : Inv X pins σ (upd H s.heap.objs.size (.tup [.int (i : Nat), x])) { s with heap := h'', toks := tk' + 1 } :=
      I.turnedNew (ch := [e, it]) (fun b ob hb q => (sb.2 b (fun z => hb (by simp [z]))).trans (hk b ob (fun z => hb (by simp [z])) (fun z => hb (by simp [z])) q)) hf (Nat.le_refl _) new
    refine ⟨.ref s.heap.objs.size, _, I1, rfl, ⟨_, x, rfl, I.hok.fresh (Nat.le_refl _), rfl, fun ys hy => by rw [I.tuple_inj hy hq]; exact hx⟩, ⟨⟨x', ?_⟩, hit'.1.at fun o q => (sb.2 it (Ne.symm hne)).trans q, hne, hae, hai⟩, fun b hb => ?_⟩
    · have e1 : ((i + 1 : Nat) : Int) = (i : Int) + 1 := by omega
      rw [e1]; exact he'
    · have hb' : b < s.heap.objs.size := by
        have e' : b = e ∨ b = it := by simpa using hb
        rcases e' with z | z
        · rw [z]; exact hel
        · rw [z]; exact hil
      rw [upd_ne (Nat.ne_of_lt hb')]
      exact (hf b hb).1
  done := by
    intro X hP hw hK hc i pins s σ H E I hf st hg
    subst hP hw hK
    obtain ⟨⟨old, he⟩, hit, hne, hae, hai⟩ := st
    obtain ⟨xs, hq, hx⟩ := hg
    obtain ⟨its, rv, p, hz⟩ := I.tuple hq
    obtain ⟨f0, f1, f2, f3, f4, f5⟩ := hf it (by simp)
    have hl := rv.length
    have hT : s.TypeIs (.ref e) "enumerate" := ⟨_, he, rfl⟩
    unfold pyNext
    refine wpAny_bind (wpAny_attempt (wpAny_callSpecial?_slot (name := Str.ofString "__next__") hT F.slot_enumerate_next
      (wpAny_call_entry F.slot_enumerate_next hT F.entry_enumerate_next ?_ (F.args_enumerate_next_1 _))))
    show wpAny _ _ (field (.ref e) 2 >>= _) _ _ _
    refine wpAny_bind (wpAny_field he rfl (x := .ref it) rfl ?_)
    refine wpAny_bind (wpAny_nextOf_tuple_end (show X.A.in1.handled = none from I.ok.hd hc) hit p (by rw [List.getElem?_toArray]; exact List.getElem?_eq_none (by omega)) fun h' x he' hx' => ?_)
    obtain ⟨o, ho, hcl⟩ := hx'
    refine wpAny_bind (wpAny_isInstance (T := "StopIteration") (b := true) ⟨o, ho, hcl⟩ isSubtype_stop ?_)
    obtain ⟨g0, g1, g2, g3, g4, g5⟩ := hf it (by simp)
    exact wpAny_pure ⟨rfl, I.turned (t' := s.toks) (fun b o hb q => he' b o hb q) g0 g1 g3 g4 g5⟩
  self := fun A i s Q E st h => let ⟨⟨_, he⟩, _⟩ := st; wpAny_pyIter_enum he h
def iEnumT (K : PySem.W.Frag) (ta : TA) : TI := fun σ H R => ta σ H fun vs H1 => ∃ a xs, vs = [.ref a] ∧ SqT K H1 a xs ∧ R (Itet K a) H1
theorem pi_enumT {X : Cx} {e : Expr} {ta : TA} {p pos tpos : Pos} {elts : List Expr} {kk : Nat} (hg : Gl X "enumerate") (hm : X.mg "enumerate" = none) (ha : PA X [e] ta) (hs : starEach [e] X.env = [(false, eval e X.env)] := by rfl) :
    PI X (.Tuple elts kk tpos) (.Call (.Name "enumerate" p) [e] [] pos) (iEnumT X.K ta) := by
  refine ⟨fun pins s σ H R I h => ?_⟩
  refine Call_ (ld_blt I hg hm boot_enumerate (PyProof.Rows.callWith_type1 (thn (ha.run pos pins s σ H _ I h) fun us s1 ⟨vs, H1, I1, r1, q1⟩ => ?_) hs rfl))
  obtain ⟨a, xs, ex, hq, q⟩ := q1
  subst ex
  cases r1 with
  | cons r rr =>
    cases rr
    cases r
    obtain ⟨its, rv, p', hz⟩ := I1.tuple hq
    have hal : a < s1.heap.objs.size := by
      obtain ⟨o, ho, _⟩ := p'
      exact Heap.lt_size ho
    refine call_enumerate_tup p' fun h' he hit hsz hk => wpAny_pyIter_enum he ?_
    have I2 : Inv X pins σ H1 { s1 with heap := h' } := I1.kept (t' := s1.toks) hk
    refine ⟨s1.heap.objs.size + 1, [s1.heap.objs.size + 1, s1.heap.objs.size], _, _, H1, rfl, I2, turn_enumT a (s1.heap.objs.size + 1) s1.heap.objs.size, ⟨⟨.none, he⟩, hit, Nat.succ_ne_self _, Nat.ne_of_lt (Nat.lt_succ_of_lt hal), Nat.ne_of_lt hal⟩, fun b hb => ?_, q⟩
    have e' : b = s1.heap.objs.size + 1 ∨ b = s1.heap.objs.size := by simpa using hb
    have hle : s1.heap.objs.size ≤ b := by
      rcases e' with z | z
      · rw [z]; exact Nat.le_add_right _ _
      · rw [z]; exact Nat.le_refl _
    exact I1.fpOk hle (I1.hok.fresh hle)
theorem walk_enumT {K : PySem.W.Frag} {a : Addr} {xs : List V} : Walk (Itet K a) xs.length (fun H => SqT K H a xs) (YPair (fun i => some (.int (i : Nat))) (fun i => xs[i]?)) := by
  refine ⟨fun i _ hi q => ⟨xs, xs[i], q, by simp [hi]⟩, fun _ q => ⟨xs, q, Nat.le_refl _⟩, fun i H v H' _ q y => ?_⟩
  obtain ⟨T, x, h1, h2, h3, h4⟩ := y
  exact ⟨T, .int (i : Nat), x, h1, h2, h3, rfl, h4 xs q⟩
end L2
set_option Elab.async false
set_option linter.all false
set_option maxRecDepth 100000
set_option maxHeartbeats 4000000
namespace K65
open PySem PySem.Spec PyProof.Rows L2
/-! ### addresses: the mathematics of a tree's nodes -/
abbrev Ad := List Nat
namespace Dt
/-- the nodes of the tree with this row of children, itself counted -/
def nodes : Dt → Nat | c k r => k.nodes + r.nodes | _ => 1
theorem nodes_pos : ∀ t : Dt, 1 ≤ t.nodes
  | x => Nat.le_refl 1
  | o => Nat.le_refl 1
  | c k r => Nat.le_trans (nodes_pos k) (Nat.le_add_right _ _)
def sub : Dt → Ad → Option Dt
  | t, [] => some t
  | c k _, 0 :: p => sub k p
  | c _ r, (j + 1) :: p => sub r (j :: p)
  | _, _ :: _ => none
def idx : Dt → Ad → Nat
  | _, [] => 0
  | c k _, 0 :: p => 1 + idx k p
  | c k r, (j + 1) :: p => k.nodes + idx r (j :: p)
  | _, _ :: _ => 0
def up : Ad → Ad
  | j :: p => (j + 1) :: p
  | [] => []
def adF : Dt → List Ad
  | c k r => (([] :: adF k).map (List.cons 0)) ++ (adF r).map up
  | _ => []
def ad (t : Dt) : List Ad := [] :: adF t
theorem sub_nil (t : Dt) : sub t [] = some t := by cases t <;> rfl
theorem idx_nil (t : Dt) : idx t [] = 0 := by cases t <;> rfl
theorem sub_c0 (k r : Dt) (p : Ad) : sub (c k r) (0 :: p) = sub k p := rfl
theorem sub_cs (k r : Dt) (j : Nat) (p : Ad) : sub (c k r) ((j + 1) :: p) = sub r (j :: p) := rfl
theorem idx_c0 (k r : Dt) (p : Ad) : idx (c k r) (0 :: p) = 1 + idx k p := rfl
theorem idx_cs (k r : Dt) (j : Nat) (p : Ad) : idx (c k r) ((j + 1) :: p) = k.nodes + idx r (j :: p) := rfl
theorem sub_o (j : Nat) (p : Ad) : sub o (j :: p) = none := by cases j <;> rfl
theorem sub_x (j : Nat) (p : Ad) : sub x (j :: p) = none := by cases j <;> rfl
theorem adF_len : ∀ t : Dt, (adF t).length + 1 = t.nodes
  | x => rfl
  | o => rfl
  | c k r => by
    have h1 := adF_len k
    have h2 := adF_len r
    show ((([] :: adF k).map (List.cons 0)) ++ (adF r).map up).length + 1 = k.nodes + r.nodes
    simp only [List.length_append, List.length_map, List.length_cons]
    omega
theorem ad_len (t : Dt) : (ad t).length = t.nodes := adF_len t
theorem ad_c (k r : Dt) : ad (c k r) = [] :: ((ad k).map (List.cons 0) ++ (adF r).map up) := rfl
/-- no address here begins with p -/
def Off (p : Ad) (l : List Ad) : Prop := ∀ q ∈ l, ¬ p <+: q
theorem adF_cons : ∀ (t : Dt) (q : Ad), q ∈ adF t → ∃ j p, q = j :: p
  | x, q, h => by simp [adF] at h
  | o, q, h => by simp [adF] at h
  | c k r, q, h => by
    have h' : q ∈ (ad k).map (List.cons 0) ++ (adF r).map up := h
    rcases List.mem_append.mp h' with h | h
    · obtain ⟨p, _, rfl⟩ := List.mem_map.mp h
      exact ⟨0, p, rfl⟩
    · obtain ⟨p, hp, rfl⟩ := List.mem_map.mp h
      obtain ⟨j, p', rfl⟩ := adF_cons r p hp
      exact ⟨j + 1, p', rfl⟩
theorem block : ∀ (t : Dt) (p : Ad) (u : Dt), sub t p = some u → ∃ A B, ad t = A ++ ((ad u).map (p ++ ·) ++ B) ∧ A.length = idx t p ∧ Off p A ∧ Off p B
  | t, [], u, h => by
    rw [sub_nil] at h
    cases h
    refine ⟨[], [], ?_, (idx_nil t).symm, by intro q h; simp at h, by intro q h; simp at h⟩
    simp
  | c k r, 0 :: p, u, h => by
    obtain ⟨A, B, e, l, oa, ob⟩ := block k p u h
    refine ⟨[] :: A.map (List.cons 0), B.map (List.cons 0) ++ (adF r).map up, ?_, ?_, ?_, ?_⟩
    · rw [ad_c, e]
      simp
    · rw [idx_c0, ← l]
      simp
      omega
    · intro q hq
      rcases List.mem_cons.mp hq with rfl | hq
      · simp
      · obtain ⟨q', hq', rfl⟩ := List.mem_map.mp hq
        intro z
        exact oa q' hq' (List.cons_prefix_cons.mp z).2
    · intro q hq
      rcases List.mem_append.mp hq with hq | hq
      · obtain ⟨q', hq', rfl⟩ := List.mem_map.mp hq
        intro z
        exact ob q' hq' (List.cons_prefix_cons.mp z).2
      · obtain ⟨q', hq', rfl⟩ := List.mem_map.mp hq
        obtain ⟨j, p', rfl⟩ := adF_cons r q' hq'
        intro z
        have := (List.cons_prefix_cons.mp z).1
        omega
  | c k r, (j + 1) :: p, u, h => by
    obtain ⟨A, B, e, l, oa, ob⟩ := block r (j :: p) u h
    cases A with
    | nil =>
      exfalso
      have e2 : ad r = (j :: p ++ []) :: (((adF u).map (j :: p ++ ·)) ++ B) := e
      have e3 : ([] : Ad) = j :: p ++ [] := (List.cons.inj e2).1
      cases e3
    | cons a A' =>
      have e2 : [] :: adF r = a :: (A' ++ ((ad u).map (j :: p ++ ·) ++ B)) := e
      obtain ⟨_, e3⟩ := List.cons.inj e2
      refine ⟨[] :: ((ad k).map (List.cons 0) ++ A'.map up), B.map up, ?_, ?_, ?_, ?_⟩
      · rw [ad_c, e3]
        simp [up, Function.comp_def]
      · rw [idx_cs, ← l, ← ad_len k]
        simp
        omega
      · intro q hq
        rcases List.mem_cons.mp hq with rfl | hq
        · simp
        · rcases List.mem_append.mp hq with hq | hq
          · obtain ⟨q', hq', rfl⟩ := List.mem_map.mp hq
            intro z
            have := (List.cons_prefix_cons.mp z).1
            omega
          · obtain ⟨q', hq', rfl⟩ := List.mem_map.mp hq
            have hm : q' ∈ adF r := by rw [e3]; exact List.mem_append_left _ hq'
            obtain ⟨j', p', rfl⟩ := adF_cons r q' hm
            intro z
            obtain ⟨z1, z2⟩ := List.cons_prefix_cons.mp z
            exact oa _ (List.mem_cons_of_mem _ hq') (List.cons_prefix_cons.mpr ⟨by omega, z2⟩)
      · intro q hq
        obtain ⟨q', hq', rfl⟩ := List.mem_map.mp hq
        have hm : q' ∈ adF r := by rw [e3]; exact List.mem_append_right _ (List.mem_append_right _ hq')
        obtain ⟨j', p', rfl⟩ := adF_cons r q' hm
        intro z
        obtain ⟨z1, z2⟩ := List.cons_prefix_cons.mp z
        exact ob _ hq' (List.cons_prefix_cons.mpr ⟨by omega, z2⟩)
  | o, j :: p, _, h => by rw [sub_o] at h; cases h
  | x, j :: p, _, h => by rw [sub_x] at h; cases h
theorem sub_app : ∀ (t : Dt) (p : Ad) (u : Dt), sub t p = some u → ∀ q, sub t (p ++ q) = sub u q ∧ idx t (p ++ q) = idx t p + idx u q
  | t, [], u, h, q => by
    rw [sub_nil] at h
    cases h
    rw [idx_nil]
    exact ⟨rfl, (Nat.zero_add _).symm⟩
  | c k r, 0 :: p, u, h, q => by
    obtain ⟨a, b⟩ := sub_app k p u h q
    refine ⟨a, ?_⟩
    show 1 + idx k (p ++ q) = 1 + idx k p + idx u q
    omega
  | c k r, (j + 1) :: p, u, h, q => by
    obtain ⟨a, b⟩ := sub_app r (j :: p) u h q
    refine ⟨a, ?_⟩
    show k.nodes + idx r (j :: p ++ q) = k.nodes + idx r (j :: p) + idx u q
    omega
  | o, j :: p, _, h, _ => by rw [sub_o] at h; cases h
  | x, j :: p, _, h, _ => by rw [sub_x] at h; cases h
theorem ad_at {t u : Dt} {p : Ad} (h : sub t p = some u) : (ad t)[idx t p]? = some p := by
  obtain ⟨A, B, e, l, _, _⟩ := block t p u h
  have e2 : (ad u).map (p ++ ·) = p :: (adF u).map (p ++ ·) := by
    show (p ++ []) :: _ = _
    rw [List.append_nil]
  rw [e, e2, ← l]
  simp
theorem idx_lt {t u : Dt} {p : Ad} (h : sub t p = some u) : idx t p + u.nodes ≤ t.nodes := by
  obtain ⟨A, B, e, l, _, _⟩ := block t p u h
  rw [← ad_len t, e, ← l, ← ad_len u]
  simp
/-- each address of the list leads to a node, and stands at its own number -/
theorem adF_sub : ∀ (t : Dt) (p : Ad), p ∈ adF t → ∃ u, sub t p = some u
  | x, q, h => by simp [adF] at h
  | o, q, h => by simp [adF] at h
  | c k r, q, h => by
    have h' : q ∈ (ad k).map (List.cons 0) ++ (adF r).map up := h
    rcases List.mem_append.mp h' with h | h
    · obtain ⟨p, hp, rfl⟩ := List.mem_map.mp h
      rcases List.mem_cons.mp hp with rfl | hp
      · exact ⟨k, sub_nil k⟩
      · exact adF_sub k p hp
    · obtain ⟨p, hp, rfl⟩ := List.mem_map.mp h
      obtain ⟨j, p', rfl⟩ := adF_cons r p hp
      exact adF_sub r (j :: p') hp
theorem ad_sub {t : Dt} {p : Ad} (h : p ∈ ad t) : ∃ u, sub t p = some u := by
  rcases List.mem_cons.mp h with rfl | h
  · exact ⟨t, sub_nil t⟩
  · exact adF_sub t p h
theorem sub_ad {t u : Dt} {p : Ad} (h : sub t p = some u) : p ∈ ad t := List.mem_of_getElem? (ad_at h)
/-! ### the order -/
def zs (p : Ad) : List Int := p.map (fun n : Nat => Int.ofNat n)
def lt (p q : Ad) : Bool := HT.lexLt (zs p) (zs q)
theorem lt_nil (j : Nat) (p : Ad) : lt [] (j :: p) = true := rfl
theorem nil_lt (p : Ad) : lt p [] = false := by cases p <;> rfl
theorem lt_cons (i j : Nat) (p q : Ad) : lt (i :: p) (j :: q) = if i = j then lt p q else decide (i < j) := by
  show (if Int.ofNat i = Int.ofNat j then HT.lexLt (zs p) (zs q) else decide (Int.ofNat i < Int.ofNat j)) = _
  have c1 : Int.ofNat i = (i : Int) := rfl
  have c2 : Int.ofNat j = (j : Int) := rfl
  rw [c1, c2]
  by_cases h : i = j
  · rw [if_pos h, if_pos (by omega)]; rfl
  · rw [if_neg h, if_neg (by omega)]
    by_cases h2 : i < j
    · rw [decide_eq_true h2, decide_eq_true (by omega)]
    · rw [decide_eq_false h2, decide_eq_false (by omega)]
theorem lt_irr : ∀ p : Ad, lt p p = false
  | [] => rfl
  | i :: p => by rw [lt_cons, if_pos rfl]; exact lt_irr p
theorem lt_asym : ∀ p q : Ad, lt p q = true → lt q p = false
  | [], [], h => rfl
  | [], _ :: _, h => rfl
  | _ :: _, [], h => nomatch h
  | i :: p, j :: q, h => by
    rw [lt_cons] at h ⊢
    by_cases e : i = j
    · rw [if_pos e] at h
      rw [if_pos e.symm]
      exact lt_asym p q h
    · rw [if_neg e] at h
      rw [if_neg (Ne.symm e)]
      have := of_decide_eq_true h
      exact decide_eq_false (by omega)
theorem up_lt (i j : Nat) (p q : Ad) : lt (up (i :: p)) (up (j :: q)) = lt (i :: p) (j :: q) := by
  show lt ((i + 1) :: p) ((j + 1) :: q) = _
  rw [lt_cons, lt_cons]
  by_cases e : i = j
  · rw [if_pos e, if_pos (by omega)]
  · rw [if_neg e, if_neg (by omega)]
    by_cases h2 : i < j
    · rw [decide_eq_true h2, decide_eq_true (by omega)]
    · rw [decide_eq_false h2, decide_eq_false (by omega)]
def Asc (l : List Ad) : Prop := l.Pairwise fun p q => lt p q = true
theorem adF_asc : ∀ t : Dt, Asc (ad t)
  | x => List.pairwise_singleton _ _
  | o => List.pairwise_singleton _ _
  | c k r => by
    have h1 := adF_asc k
    have h2 := adF_asc r
    rw [ad_c]
    refine List.pairwise_cons.mpr ⟨?_, List.pairwise_append.mpr ⟨?_, ?_, ?_⟩⟩
    · intro q hq
      have hq' : q ∈ adF (c k r) := hq
      obtain ⟨j, p, rfl⟩ := adF_cons _ q hq'
      rfl
    · refine List.pairwise_map.mpr (h1.imp ?_)
      intro a b h
      show lt (0 :: a) (0 :: b) = true
      rw [lt_cons, if_pos rfl]
      exact h
    · refine List.pairwise_map.mpr ?_
      have h3 := (List.pairwise_cons.mp h2).2
      refine h3.imp_of_mem ?_
      intro a b ha hb h
      obtain ⟨i, p, rfl⟩ := adF_cons _ a ha
      obtain ⟨j, q, rfl⟩ := adF_cons _ b hb
      rw [up_lt]
      exact h
    · intro a ha b hb
      obtain ⟨p, _, rfl⟩ := List.mem_map.mp ha
      obtain ⟨q, hq, rfl⟩ := List.mem_map.mp hb
      obtain ⟨j, q', rfl⟩ := adF_cons _ q hq
      show lt (0 :: p) ((j + 1) :: q') = true
      rw [lt_cons, if_neg (by omega)]
      exact decide_eq_true (by omega)
theorem ad_asc (t : Dt) : Asc (ad t) := adF_asc t
theorem ad_nodup (t : Dt) : (ad t).Nodup := (ad_asc t).imp fun {p q} h e => by
  rw [e, lt_irr] at h
  exact nomatch h
/-- the number of an address is where it stands -/
theorem idx_of {t : Dt} {p : Ad} {i : Nat} (h : (ad t)[i]? = some p) : idx t p = i := by
  obtain ⟨u, hu⟩ := ad_sub (List.mem_of_getElem? h)
  have h2 := ad_at hu
  obtain ⟨l1, e1⟩ := List.getElem?_eq_some_iff.mp h
  obtain ⟨l2, e2⟩ := List.getElem?_eq_some_iff.mp h2
  exact (List.getElem_inj (ad_nodup t)).mp (e2.trans e1.symm)
theorem idx_inj {t : Dt} {p q : Ad} (hp : p ∈ ad t) (hq : q ∈ ad t) (h : idx t p = idx t q) : p = q := by
  obtain ⟨u, hu⟩ := ad_sub hp
  obtain ⟨v, hv⟩ := ad_sub hq
  have h1 := ad_at hu
  have h2 := ad_at hv
  rw [h, h2] at h1
  exact (Option.some.inj h1).symm
/-- within: the numbers from its own to the last of its bough -/
theorem within {t u : Dt} {p q : Ad} (hp : sub t p = some u) (hq : q ∈ ad t) : (idx t p ≤ idx t q ∧ idx t q < idx t p + u.nodes) ↔ p <+: q := by
  constructor
  · rintro ⟨h1, h2⟩
    obtain ⟨v, hv⟩ := ad_sub hq
    have h3 := ad_at hv
    obtain ⟨A, B, e, l, _, _⟩ := block t p u hp
    rw [e, List.getElem?_append_right (by omega), List.getElem?_append_left (by rw [List.length_map, ad_len]; omega), List.getElem?_map] at h3
    obtain ⟨q', _, e'⟩ := Option.map_eq_some_iff.mp h3
    exact ⟨q', e'⟩
  · rintro ⟨q', rfl⟩
    obtain ⟨v, hv⟩ := ad_sub hq
    obtain ⟨a, b⟩ := sub_app t p u hp q'
    rw [a] at hv
    have h4 := idx_lt hv
    have := v.nodes_pos
    omega
/-- what lies above a node is a node -/
theorem sub_pre : ∀ (t : Dt) (p q : Ad) (u : Dt), sub t (p ++ q) = some u → ∃ v, sub t p = some v
  | t, [], q, u, h => ⟨t, sub_nil t⟩
  | c k r, 0 :: p, q, u, h => sub_pre k p q u h
  | c k r, (j + 1) :: p, q, u, h => sub_pre r (j :: p) q u h
  | o, j :: p, q, _, h => by rw [List.cons_append, sub_o] at h; cases h
  | x, j :: p, q, _, h => by rw [List.cons_append, sub_x] at h; cases h
theorem pre_ad {t : Dt} {p q : Ad} (h : q ∈ ad t) (hp : p <+: q) : p ∈ ad t := by
  obtain ⟨r, rfl⟩ := hp
  obtain ⟨u, hu⟩ := ad_sub h
  obtain ⟨v, hv⟩ := sub_pre t p r u hu
  exact sub_ad hv
/-! ### the children of a row -/
theorem sub_one : ∀ (t : Dt) (j : Nat), sub t [j] = t.kids[j]?
  | x, j => by cases j <;> rfl
  | o, j => by cases j <;> rfl
  | c k r, 0 => sub_nil k
  | c k r, j + 1 => by
    show sub r [j] = r.kids[j]?
    exact sub_one r j
theorem idx_one : ∀ (t : Dt) (j : Nat) (k : Dt), t.kids[j]? = some k → (j = 0 → idx t [j] = 1) ∧ idx t [j] + k.nodes ≤ t.nodes ∧ (∀ k', t.kids[j + 1]? = some k' → idx t [j + 1] = idx t [j] + k.nodes) ∧ (t.kids[j + 1]? = none → idx t [j] + k.nodes = t.nodes)
  | x, j, k, h => by cases j <;> exact nomatch h
  | o, j, k, h => by cases j <;> exact nomatch h
  | c k0 r, 0, k, h => by
    obtain rfl : k0 = k := Option.some.inj h
    have e0 : idx (c k0 r) [0] = 1 := by
      show 1 + idx k0 [] = 1
      rw [idx_nil]
    refine ⟨fun _ => e0, ?_, fun k' h' => ?_, fun h' => ?_⟩
    · rw [e0]
      show 1 + k0.nodes ≤ k0.nodes + r.nodes
      have := r.nodes_pos
      omega
    · have h2 : r.kids[0]? = some k' := h'
      have h3 := (idx_one r 0 k' h2).1 rfl
      rw [e0]
      show k0.nodes + idx r [0] = 1 + k0.nodes
      omega
    · have h2 : r.kids[0]? = none := h'
      have h3 : r.nodes = 1 := by
        cases r with
        | x => rfl
        | o => rfl
        | c a b => exact nomatch h2
      rw [e0]
      show 1 + k0.nodes = k0.nodes + r.nodes
      omega
  | c k0 r, j + 1, k, h => by
    have h2 : r.kids[j]? = some k := h
    obtain ⟨q0, q1, q2, q3⟩ := idx_one r j k h2
    have e0 : idx (c k0 r) [j + 1] = k0.nodes + idx r [j] := rfl
    refine ⟨fun z => by omega, ?_, fun k' h' => ?_, fun h' => ?_⟩
    · rw [e0]
      show k0.nodes + idx r [j] + k.nodes ≤ k0.nodes + r.nodes
      omega
    · have := q2 k' h'
      show k0.nodes + idx r [j + 1] = _
      omega
    · have := q3 h'
      rw [e0]
      show k0.nodes + idx r [j] + k.nodes = k0.nodes + r.nodes
      omega
/-! ### leaves -/
def isLf (t : Dt) (p : Ad) : Bool := match sub t p with | some u => u.len == 0 | none => false
def lv (t : Dt) : List Ad := (ad t).filter (isLf t)
def low (t : Dt) (p : Ad) : Nat := (((ad t).take (idx t p)).filter (isLf t)).length
def lf (t : Dt) : Nat := (lv t).length
theorem isLf_app {t u : Dt} {p : Ad} (h : sub t p = some u) (q : Ad) : isLf t (p ++ q) = isLf u q := by
  unfold isLf
  rw [(sub_app t p u h q).1]
theorem filter_blk {t u : Dt} {p : Ad} (h : sub t p = some u) : ((ad u).map (p ++ ·)).filter (isLf t) = (lv u).map (p ++ ·) := by
  unfold lv
  rw [List.filter_map]
  congr 1
  refine List.filter_congr fun q _ => ?_
  exact isLf_app h q
/-- the leaves ahead, within, behind -/
theorem lv_block {t u : Dt} {p : Ad} (h : sub t p = some u) : ∃ A B, lv t = A ++ ((lv u).map (p ++ ·) ++ B) ∧ A.length = low t p ∧ A = ((ad t).take (idx t p)).filter (isLf t) ∧ Off p A ∧ Off p B := by
  obtain ⟨A, B, e, l, oa, ob⟩ := block t p u h
  have et : (ad t).take (idx t p) = A := by rw [e, ← l]; simp
  refine ⟨A.filter (isLf t), B.filter (isLf t), ?_, ?_, by rw [et], fun q hq => oa q ((List.mem_filter.mp hq).1), fun q hq => ob q ((List.mem_filter.mp hq).1)⟩
  · rw [← filter_blk h, ← List.filter_append, ← List.filter_append, ← e]
    rfl
  · unfold low
    rw [et]
theorem low_le {t u : Dt} {p : Ad} (h : sub t p = some u) : low t p + lf u ≤ lf t := by
  obtain ⟨A, B, e, l, _⟩ := lv_block h
  unfold lf
  rw [e, ← l]
  simp
/-- the next at its side -/
theorem low_next {t u : Dt} {p q : Ad} (h : sub t p = some u) (e : idx t q = idx t p + u.nodes) : low t q = low t p + lf u := by
  obtain ⟨A, B, e1, l, oa, ob⟩ := block t p u h
  have et : (ad t).take (idx t p) = A := by rw [e1, ← l]; simp
  have et2 : (ad t).take (idx t q) = A ++ (ad u).map (p ++ ·) := by
    rw [e, e1, ← l, ← ad_len u, ← List.append_assoc]
    exact List.take_left' (by simp)
  unfold low
  rw [et2, et, List.filter_append, filter_blk h, List.length_append, List.length_map]
  rfl
theorem low_first {t : Dt} {p q : Ad} (hp : p ∈ ad t) (hl : isLf t p = false) (e : idx t q = idx t p + 1) : low t q = low t p := by
  obtain ⟨u, hu⟩ := ad_sub hp
  have h := ad_at hu
  unfold low
  rw [e, List.take_add_one, h]
  simp [hl]
theorem low_nil (t : Dt) : low t [] = 0 := by
  unfold low
  rw [idx_nil]
  rfl
theorem isLf_o {t u : Dt} {p : Ad} (h : sub t p = some u) : isLf t p = (u.len == 0) := by
  unfold isLf
  rw [h]
theorem lv_leaf {u : Dt} (h : u.len = 0) : lv u = [[]] ∧ ad u = [[]] := by
  cases u with
  | x => exact ⟨rfl, rfl⟩
  | o => exact ⟨rfl, rfl⟩
  | c k r => exact nomatch h
/-- the leaves below p in the order are those ahead of its bough -/
theorem low_lt {t : Dt} {p : Ad} (hp : p ∈ ad t) : ((lv t).filter fun q => lt q p).length = low t p := by
  obtain ⟨u, hu⟩ := ad_sub hp
  have hat := ad_at hu
  have hs : ad t = (ad t).take (idx t p) ++ p :: (ad t).drop (idx t p + 1) := by
    obtain ⟨hl, he⟩ := List.getElem?_eq_some_iff.mp hat
    conv => lhs; rw [← List.take_append_drop (idx t p) (ad t), List.drop_eq_getElem_cons hl, he]
  have ha := ad_asc t
  unfold Asc at ha
  rw [hs] at ha
  obtain ⟨_, h2, h3⟩ := List.pairwise_append.mp ha
  have h4 := (List.pairwise_cons.mp h2).1
  unfold lv low
  rw [List.filter_filter]
  conv => lhs; rw [hs]
  rw [List.filter_append, List.length_append]
  have e1 : List.filter (fun a => lt a p && isLf t a) ((ad t).take (idx t p)) = List.filter (isLf t) ((ad t).take (idx t p)) := by
    refine List.filter_congr fun q hq => ?_
    rw [h3 q hq p (by simp), Bool.true_and]
  have e2 : List.filter (fun a => lt a p && isLf t a) (p :: (ad t).drop (idx t p + 1)) = [] := by
    refine List.filter_eq_nil_iff.mpr fun q hq => ?_
    rcases List.mem_cons.mp hq with rfl | hq
    · rw [lt_irr]; simp
    · rw [lt_asym p q (h4 q hq)]; simp
  rw [e1, e2]
  rfl
theorem pre_take {p q : Ad} : (q.take p.length = p) ↔ p <+: q := by
  constructor
  · intro h
    have h2 := List.take_append_drop p.length q
    rw [h] at h2
    exact ⟨q.drop p.length, h2⟩
  · rintro ⟨r, rfl⟩
    simp
theorem high_pre {t u : Dt} {p : Ad} (h : sub t p = some u) : ((lv t).filter fun q => decide (q.take p.length = p)).length = lf u := by
  obtain ⟨A, B, e, l, _, oa, ob⟩ := lv_block h
  rw [e, List.filter_append, List.filter_append]
  have e1 : List.filter (fun q => decide (q.take p.length = p)) A = [] := List.filter_eq_nil_iff.mpr fun q hq => by
    rw [decide_eq_false (fun z => oa q hq (pre_take.mp z))]; simp
  have e2 : List.filter (fun q => decide (q.take p.length = p)) B = [] := List.filter_eq_nil_iff.mpr fun q hq => by
    rw [decide_eq_false (fun z => ob q hq (pre_take.mp z))]; simp
  have e3 : List.filter (fun q => decide (q.take p.length = p)) ((lv u).map (p ++ ·)) = (lv u).map (p ++ ·) := List.filter_eq_self.mpr fun q hq => by
    obtain ⟨q', _, rfl⟩ := List.mem_map.mp hq
    exact decide_eq_true (pre_take.mpr ⟨q', rfl⟩)
  rw [e1, e2, e3]
  simp [lf]
/-- a node is a leaf when the next address does not begin with its own -/
theorem leaf_next {t : Dt} {p : Ad} {i : Nat} (h : (ad t)[i]? = some p) : isLf t p = true ↔ ∀ q, (ad t)[i + 1]? = some q → ¬ p <+: q := by
  obtain ⟨u, hu⟩ := ad_sub (List.mem_of_getElem? h)
  have hi := idx_of h
  rw [isLf_o hu]
  constructor
  · intro e q hq hpq
    have hw := (within hu (List.mem_of_getElem? hq)).mpr hpq
    have hj := idx_of hq
    have : u.nodes = 1 := by
      cases u with
      | x => rfl
      | o => rfl
      | c k r => exact nomatch e
    omega
  · intro e
    cases u with
    | x => rfl
    | o => rfl
    | c k r =>
      exfalso
      obtain ⟨a, b⟩ := sub_app t p _ hu [0]
      have h1 : sub t (p ++ [0]) = some k := by rw [a]; exact sub_nil k
      have h2 := ad_at h1
      have h3 : idx (c k r) [0] = 1 := by
        show 1 + idx k [] = 1
        rw [idx_nil]
      rw [b, h3, hi] at h2
      exact e _ h2 ⟨[0], rfl⟩
/-! ### common beginnings -/
def lcp : Ad → Ad → Nat
  | i :: p, j :: q => if i = j then lcp p q + 1 else 0
  | _, _ => 0
theorem lcp_le : ∀ p q : Ad, lcp p q ≤ p.length ∧ lcp p q ≤ q.length
  | [], _ => ⟨Nat.zero_le _, Nat.zero_le _⟩
  | _ :: _, [] => ⟨Nat.zero_le _, Nat.zero_le _⟩
  | i :: p, j :: q => by
    have := lcp_le p q
    by_cases e : i = j <;> simp [lcp, e] <;> omega
/-- q begins with the first n of p just when n is at most the common length -/
theorem lcp_pre : ∀ (p q : Ad) (n : Nat), n ≤ p.length → (p.take n <+: q ↔ n ≤ lcp p q)
  | [], q, n, h => by
    have : n = 0 := by simpa using h
    subst this
    simp
  | i :: p, [], n, h => by
    cases n with
    | zero => simp
    | succ n => simp [lcp]
  | i :: p, j :: q, n, h => by
    cases n with
    | zero => simp
    | succ n =>
      have h' : n ≤ p.length := by simpa using h
      have ih := lcp_pre p q n h'
      rw [List.take_succ_cons, List.cons_prefix_cons]
      by_cases e : i = j
      · simp [lcp, e, ih]
      · simp [lcp, e]
/-- the law's count: the first place where they differ -/
theorem lcp_first (p q : Ad) (n : Nat) (hn : n < min p.length q.length) (h : p[n]? ≠ q[n]?) (ha : p.take n <+: q) : lcp p q = n := by
  have h1 := (lcp_pre p q n (by omega)).mp ha
  have h2 : ¬ n + 1 ≤ lcp p q := by
    intro z
    have h3 := (lcp_pre p q (n + 1) (by omega)).mpr z
    obtain ⟨r, hr⟩ := h3
    apply h
    rw [← hr, List.getElem?_append_left (by rw [List.length_take]; omega), List.getElem?_take]
    simp
  omega
end Dt
end K65
set_option Elab.async false
set_option linter.all false
set_option maxRecDepth 100000
set_option maxHeartbeats 4000000
namespace K65
open PySem PySem.Spec PyProof.Rows L2
/-! ### a ShapeTree in memory -/
/-- its attributes: the form, then ten lists -/
def stF (fv : V) (L : Nat → Addr) : List (Str × V) :=
  [("form", fv), ("boughs", .ref (L 0)), ("parents", .ref (L 1)), ("kids", .ref (L 2)), ("depths", .ref (L 3)), ("sides", .ref (L 4)), ("lows", .ref (L 5)), ("highs", .ref (L 6)), ("ends", .ref (L 7)), ("leaves", .ref (L 8)), ("paths", .ref (L 9))]
section
variable (fv : V) (L : Nat → Addr)
theorem stF_form : (stF fv L).lookup ("form" : Str) = some fv := by rfl
theorem stF_0 : (stF fv L).lookup ("boughs" : Str) = some (.ref (L 0)) := by rfl
theorem stF_1 : (stF fv L).lookup ("parents" : Str) = some (.ref (L 1)) := by rfl
theorem stF_2 : (stF fv L).lookup ("kids" : Str) = some (.ref (L 2)) := by rfl
theorem stF_3 : (stF fv L).lookup ("depths" : Str) = some (.ref (L 3)) := by rfl
theorem stF_4 : (stF fv L).lookup ("sides" : Str) = some (.ref (L 4)) := by rfl
theorem stF_5 : (stF fv L).lookup ("lows" : Str) = some (.ref (L 5)) := by rfl
theorem stF_6 : (stF fv L).lookup ("highs" : Str) = some (.ref (L 6)) := by rfl
theorem stF_7 : (stF fv L).lookup ("ends" : Str) = some (.ref (L 7)) := by rfl
theorem stF_8 : (stF fv L).lookup ("leaves" : Str) = some (.ref (L 8)) := by rfl
theorem stF_9 : (stF fv L).lookup ("paths" : Str) = some (.ref (L 9)) := by rfl
theorem stF_grow : (stF fv L).lookup ("_grow" : Str) = none := by rfl
end

theorem putF_new {f : Str} {v : V} : ∀ {fs : List (Str × V)}, (∀ g ∈ fs.map (·.1), ¬ g = f) → putF f v fs = fs ++ [(f, v)]
  | [], _ => rfl
  | (g, y) :: r, h => by
    show (if g = f then (g, v) :: r else (g, y) :: putF f v r) = _
    rw [if_neg (h g (by simp)), putF_new (fs := r) fun z hz => h z (by simp [hz])]
    rfl
structure TreeAt (C : Addr) (H : Hp) (a dx : Addr) (fv : V) (L : Nat → Addr) (S : Nat → List V) : Prop where
  ob : H a = some (.ins C dx (stF fv L))
  ls : ∀ i, i < 10 → H (L i) = some (.lst (S i))
  inj : ∀ i j, i < 10 → j < 10 → L i = L j → i = j
/-- what is no list of the tree stands as before -/
def Keep (L : Nat → Addr) (H H' : Hp) : Prop := ∀ y o, H y = some o → (∀ i, i < 10 → y ≠ L i) → H' y = some o
/-- tuples stand as before -/
def KeepT (H H' : Hp) : Prop := ∀ y xs, (H y = some (.tup xs) → H' y = some (.tup xs)) ∧ (∀ o, H y = some (.frz o (.tup xs)) → H' y = some (.frz o (.tup xs)))
theorem Keep.refl (L : Nat → Addr) (H : Hp) : Keep L H H := fun _ _ h _ => h
theorem Keep.trans {L : Nat → Addr} {H H1 H2 : Hp} (a : Keep L H H1) (b : Keep L H1 H2) : Keep L H H2 := fun y o h n => b y o (a y o h n) n
theorem Keep.same {L : Nat → Addr} {H H1 H2 : Hp} (a : Keep L H H1) (b : Same H1 H2) : Keep L H H2 := fun y o h n => b y o (a y o h n)
theorem KeepT.refl (H : Hp) : KeepT H H := fun _ _ => ⟨fun h => h, fun _ h => h⟩
theorem KeepT.trans {H H1 H2 : Hp} (a : KeepT H H1) (b : KeepT H1 H2) : KeepT H H2 := fun y xs => ⟨fun h => (b y xs).1 ((a y xs).1 h), fun o h => (b y xs).2 o ((a y xs).2 o h)⟩
theorem KeepT.of_same {H H' : Hp} (e : Same H H') : KeepT H H' := fun y xs => ⟨fun h => e _ _ h, fun o h => e _ _ h⟩
theorem TreeAt.keepT {C : Addr} {H H' : Hp} {a dx : Addr} {fv : V} {L : Nat → Addr} {S : Nat → List V} (t : TreeAt C H a dx fv L S) (k : Keep L H H') : KeepT H H' := fun y xs =>
  ⟨fun h => k y _ h (fun i hi e => by rw [e, t.ls i hi] at h; exact HO.noConfusion (Option.some.inj h)), fun o h => k y _ h (fun i hi e => by rw [e, t.ls i hi] at h; exact HO.noConfusion (Option.some.inj h))⟩
def st (S : Nat → List V) (i : Nat) (xs : List V) : Nat → List V := fun j => if j = i then xs else S j
theorem TreeAt.put {C : Addr} {H : Hp} {a dx : Addr} {fv : V} {L : Nat → Addr} {S : Nat → List V} (t : TreeAt C H a dx fv L S) {i : Nat} (hi : i < 10) (xs : List V) : TreeAt C (upd H (L i) (.lst xs)) a dx fv L (st S i xs) := by
  refine ⟨?_, fun j hj => ?_, t.inj⟩
  · rw [upd_ne]
    · exact t.ob
    · intro e
      have h := t.ls i hi
      rw [← e, t.ob] at h
      exact HO.noConfusion (Option.some.inj h)
  · unfold st
    by_cases e : j = i
    · subst e
      rw [upd_same, if_pos rfl]
    · rw [upd_ne (fun z => e (t.inj j i hj hi z)), if_neg e]
      exact t.ls j hj
theorem TreeAt.same {C : Addr} {H H' : Hp} {a dx : Addr} {fv : V} {L : Nat → Addr} {S : Nat → List V} (t : TreeAt C H a dx fv L S) (e : Same H H') : TreeAt C H' a dx fv L S := ⟨e _ _ t.ob, fun j hj => e _ _ (t.ls j hj), t.inj⟩
theorem Keep.put {L : Nat → Addr} {H H' : Hp} (k : Keep L H H') {i : Nat} (hi : i < 10) (o : HO) : Keep L H (upd H' (L i) o) := fun y u h n => by
  rw [upd_ne (n i hi)]
  exact k y u h n
theorem kt_sqt {K : PySem.W.Frag} {H H' : Hp} {a : Addr} {xs : List V} (e : KeepT H H') (h : SqT K H a xs) : SqT K H' a xs := by
  rcases h with (h | ⟨o, h⟩) | h
  · exact .inl (.inl ((e _ _).1 h))
  · exact .inl (.inr ⟨o, (e _ _).2 o h⟩)
  · exact .inr h
/-- a row of shapes -/
inductive ShF (K : PySem.W.Frag) (H : Hp) : List V → Dt → Prop
  | nil : ShF K H [] .o
  | cons {a : Addr} {vs ws : List V} {k r : Dt} (h : SqT K H a vs) (p : ShF K H vs k) (q : ShF K H ws r) : ShF K H (.ref a :: ws) (.c k r)
theorem ShF.keep {K : PySem.W.Frag} {H H' : Hp} (e : KeepT H H') {vs : List V} {t : Dt} (h : ShF K H vs t) : ShF K H' vs t := by
  induction h with
  | nil => exact .nil
  | cons h _ _ ih1 ih2 => exact .cons (kt_sqt e h) ih1 ih2
theorem ShF.dtf {K : PySem.W.Frag} {H : Hp} {vs : List V} {t : Dt} (h : ShF K H vs t) : DtF K H vs t := by
  induction h with
  | nil => exact .nil
  | cons h _ _ ih1 ih2 => exact .tup h ih1 ih2
theorem ShF.len {K : PySem.W.Frag} {H : Hp} {vs : List V} {t : Dt} (h : ShF K H vs t) : vs.length = t.len := h.dtf.len
/-- a shape -/
def ShV (K : PySem.W.Frag) (H : Hp) (v : V) (t : Dt) : Prop := ∃ a vs, v = .ref a ∧ SqT K H a vs ∧ ShF K H vs t
theorem ShV.keep {K : PySem.W.Frag} {H H' : Hp} (e : KeepT H H') {v : V} {t : Dt} (h : ShV K H v t) : ShV K H' v t := by
  obtain ⟨a, vs, h1, h2, h3⟩ := h
  exact ⟨a, vs, h1, kt_sqt e h2, h3.keep e⟩
theorem ShF.at {K : PySem.W.Frag} {H : Hp} {vs : List V} {t : Dt} (h : ShF K H vs t) : ∀ (i : Nat) (v : V), vs[i]? = some v → ∃ k, t.kids[i]? = some k ∧ ShV K H v k := by
  induction h with
  | nil => intro i v h; simp at h
  | @cons a vs ws k r h p q _ ih2 =>
    intro i v hi
    cases i with
    | zero =>
      obtain rfl : V.ref a = v := by simpa using hi
      exact ⟨k, rfl, a, vs, rfl, h, p⟩
    | succ i =>
      have hi' : ws[i]? = some v := by simpa using hi
      exact ih2 i v hi'
namespace Dt
/-- the greatest depth -/
def ht : Dt → Nat | c k r => max (k.ht + 1) r.ht | _ => 0
theorem ht_kid : ∀ (t : Dt) (i : Nat) (k : Dt), t.kids[i]? = some k → k.ht + 1 ≤ t.ht
  | x, i, k, h => by simp [kids] at h
  | o, i, k, h => by simp [kids] at h
  | c k0 r, 0, k, h => by
    obtain rfl : k0 = k := Option.some.inj h
    exact Nat.le_max_left _ _
  | c k0 r, i + 1, k, h => Nat.le_trans (ht_kid r i k h) (Nat.le_max_right _ _)
/-! the addresses child by child -/
def rowsN (f : Dt → List Ad) (u : Dt) : Nat → List Ad
  | 0 => []
  | i + 1 => rowsN f u i ++ match u.kids[i]? with | some k => (f k).map (List.cons i) | none => []
theorem rowsN_up (f : Dt → List Ad) (hf : ∀ t, ∀ q ∈ f t, True) (k r : Dt) : ∀ i, rowsN f (c k r) (i + 1) = (f k).map (List.cons 0) ++ (rowsN f r i).map up
  | 0 => by simp [rowsN, kids]
  | i + 1 => by
    have ih := rowsN_up f hf k r i
    show rowsN f (c k r) (i + 1) ++ _ = _
    rw [ih]
    show _ ++ (match r.kids[i]? with | some k => (f k).map (List.cons (i + 1)) | none => []) = _
    show _ = (f k).map (List.cons 0) ++ (rowsN f r i ++ match r.kids[i]? with | some k => (f k).map (List.cons i) | none => []).map up
    rw [List.map_append, List.append_assoc]
    congr 2
    cases r.kids[i]? with
    | none => rfl
    | some k' => simp [up, Function.comp_def]
theorem adF_rows : ∀ u : Dt, adF u = rowsN ad u u.len
  | x => rfl
  | o => rfl
  | c k r => by
    show (ad k).map (List.cons 0) ++ (adF r).map up = rowsN ad (c k r) (r.len + 1)
    rw [rowsN_up ad (fun _ _ _ => trivial), adF_rows r]
theorem ad_rows (u : Dt) : ad u = [] :: rowsN ad u u.len := by
  rw [← adF_rows]
  rfl
theorem lvF_rows : ∀ u : Dt, (adF u).filter (isLf u) = rowsN lv u u.len
  | x => rfl
  | o => rfl
  | c k r => by
    show ((ad k).map (List.cons 0) ++ (adF r).map up).filter (isLf (c k r)) = rowsN lv (c k r) (r.len + 1)
    rw [rowsN_up lv (fun _ _ _ => trivial), ← lvF_rows r, List.filter_append]
    congr 1
    · unfold lv
      rw [List.filter_map]
      rfl
    · rw [List.filter_map]
      congr 1
      refine List.filter_congr fun q hq => ?_
      obtain ⟨j, p, rfl⟩ := adF_cons r q hq
      rfl
theorem lv_rows (u : Dt) (h : u.len ≠ 0) : lv u = rowsN lv u u.len := by
  rw [← lvF_rows]
  unfold lv ad
  have : isLf u [] = false := by
    rw [isLf_o (sub_nil u)]
    simpa using h
  rw [List.filter_cons, this]
  rfl
theorem idx_rows (u : Dt) : ∀ i, i < u.len → idx u [i] = 1 + (rowsN ad u i).length
  | 0, h => by
    rw [← kids_len] at h
    exact (idx_one u 0 _ (List.getElem?_eq_getElem h)).1 rfl
  | i + 1, h => by
    have ih := idx_rows u i (by omega)
    rw [← kids_len] at h
    have h1 : u.kids[i]? = some u.kids[i] := List.getElem?_eq_getElem (by omega)
    have h2 : u.kids[i + 1]? = some u.kids[i + 1] := List.getElem?_eq_getElem h
    have h3 := (idx_one u i _ h1).2.2.1 _ h2
    rw [h3, ih]
    show 1 + (rowsN ad u i).length + _ = 1 + (rowsN ad u i ++ match u.kids[i]? with | some k => (ad k).map (List.cons i) | none => []).length
    rw [h1, List.length_append, List.length_map, ad_len]
    omega
theorem low_rows {T u : Dt} {p : Ad} (hp : sub T p = some u) : ∀ i, i < u.len → low T (p ++ [i]) = low T p + (rowsN lv u i).length
  | 0, h => by
    obtain ⟨a, b⟩ := sub_app T p u hp [0]
    have h' : 0 < u.kids.length := by rw [kids_len]; exact h
    have h1 := (idx_one u 0 _ (List.getElem?_eq_getElem h')).1 rfl
    refine (low_first (sub_ad hp) ?_ (by omega)).trans rfl
    rw [isLf_o hp]
    simp
    omega
  | i + 1, h => by
    have ih := low_rows hp i (by omega)
    have h' := h
    rw [← kids_len] at h'
    have h1 : u.kids[i]? = some u.kids[i] := List.getElem?_eq_getElem (by omega)
    have h2 : u.kids[i + 1]? = some u.kids[i + 1] := List.getElem?_eq_getElem h'
    have h3 := (idx_one u i _ h1).2.2.1 _ h2
    obtain ⟨a, b⟩ := sub_app T p u hp [i]
    obtain ⟨a2, b2⟩ := sub_app T p u hp [i + 1]
    rw [sub_one, h1] at a
    have h4 := low_next a (q := p ++ [i + 1]) (by omega)
    rw [h4, ih]
    show low T p + (rowsN lv u i).length + _ = low T p + (rowsN lv u i ++ match u.kids[i]? with | some k => (lv k).map (List.cons i) | none => []).length
    rw [h1, List.length_append, List.length_map]
    unfold lf
    omega
theorem rowsN_le {f : Dt → List Ad} {u : Dt} : ∀ {i j : Nat}, i ≤ j → (rowsN f u i).length ≤ (rowsN f u j).length
  | i, 0, h => by
    have : i = 0 := by omega
    subst this
    exact Nat.le_refl _
  | i, j + 1, h => by
    by_cases e : i = j + 1
    · subst e; exact Nat.le_refl _
    · refine Nat.le_trans (rowsN_le (j := j) (by omega)) ?_
      show _ ≤ (rowsN f u j ++ _).length
      rw [List.length_append]
      omega
end Dt
end K65
set_option Elab.async false
set_option linter.all false
set_option maxRecDepth 100000
set_option maxHeartbeats 4000000
namespace K65
open PySem PySem.Spec PyProof.Rows L2 Dt
/-! ### what the lists hold for a node -/
def pth (T : Dt) (p : Ad) (n : Nat) : List V := (List.range n).map fun k => V.int (T.idx (p.take k) : Nat)
def parV (T : Dt) (q : Ad) : V := if q = [] then .non else .int (T.idx q.dropLast : Nat)
def sideI (q : Ad) : Int := match q.getLast? with | some i => (i : Nat) | none => -1
def kidV (T : Dt) (q : Ad) (w : Dt) : List V := (List.range w.len).map fun j => V.int (T.idx (q ++ [j]) : Nat)
def Cell (K : PySem.W.Frag) (H : Hp) (T : Dt) : Nat → V → Ad → Prop
  | 0, v, q => ∃ w, T.sub q = some w ∧ ShV K H v w
  | 1, v, q => v = parV T q
  | 2, v, q => ∃ w b, T.sub q = some w ∧ v = .ref b ∧ SqT K H b (kidV T q w)
  | 3, v, q => v = .int (q.length : Nat)
  | 4, v, q => v = .int (sideI q)
  | 5, v, q => v = .int (T.low q : Nat)
  | 6, v, q => ∃ w, T.sub q = some w ∧ v = .int (T.low q + w.lf : Nat)
  | 7, v, q => ∃ w, T.sub q = some w ∧ v = .int (T.idx q + w.nodes : Nat)
  | 8, v, q => v = .int (T.idx q : Nat)
  | _, v, q => ∃ b, v = .ref b ∧ SqT K H b (pth T q (q.length + 1))
theorem Cell.keep {K : PySem.W.Frag} {H H' : Hp} {T : Dt} (e : KeepT H H') : ∀ (i : Nat) (v : V) (q : Ad), Cell K H T i v q → Cell K H' T i v q
  | 0, v, q, ⟨w, h1, h2⟩ => ⟨w, h1, h2.keep e⟩
  | 1, v, q, h => h
  | 2, v, q, ⟨w, b, h1, h2, h3⟩ => ⟨w, b, h1, h2, kt_sqt e h3⟩
  | 3, v, q, h => h
  | 4, v, q, h => h
  | 5, v, q, h => h
  | 6, v, q, h => h
  | 7, v, q, h => h
  | 8, v, q, h => h
  | _ + 9, v, q, ⟨b, h1, h2⟩ => ⟨b, h1, kt_sqt e h2⟩
def aof (i : Nat) : Dt → List Ad := if i < 8 then ad else lv
def start (T : Dt) (p : Ad) (i : Nat) : Nat := if i < 8 then T.idx p else T.low p
def Grown (K : PySem.W.Frag) (H : Hp) (T : Dt) (l : Nat → List Ad) (S S' : Nat → List V) : Prop := ∀ i, i < 10 → ∃ R, S' i = S i ++ R ∧ Paired (Cell K H T i) R (l i)
def spGrow (K : PySem.W.Frag) (C : Addr) (n : Nat) : Sp := fun vs H Q _ => ∃ (a b ab dx : Addr) (bs : List V) (T u : Dt) (p : Ad) (fv : V) (L : Nat → Addr) (S : Nat → List V),
  vs = [.ref a, .ref b, .ref ab, .int (sideI p)] ∧ TreeAt C H a dx fv L S ∧ SqT K H b bs ∧ ShF K H bs u ∧ SqT K H ab (pth T p p.length) ∧ T.sub p = some u ∧ T.nodes ≤ 1000 ∧ u.ht < n ∧ p.length + n ≤ 1000 ∧
  (∀ i, i < 10 → (S i).length = start T p i) ∧
  ∀ H' S', TreeAt C H' a dx fv L S' → Keep L H H' → Grown K H' T (fun i => ((aof i) u).map (p ++ ·)) S S' → Q .non H'
theorem rCatA_all {K : PySem.W.Frag} {H : Hp} {a b : Addr} {xs ys : List V} {Q : VK} (ha : SqT K H a xs) (hb : SqT K H b ys) (hz : xs.length + ys.length ≤ sizeLine) (h : ∀ tp H2, Same H H2 → SqT K H2 tp (xs ++ ys) → Q (.ref tp) H2) : rCatA K (.ref a) (.ref b) H Q := by
  refine ⟨a, b, xs, ys, rfl, rfl, ha, hb, hz, fun e => ?_, fun _ e => ?_, fun _ _ p hp => ?_⟩
  · subst e
    exact h b H (fun _ _ z => z) hb
  · subst e
    refine h a H (fun _ _ z => z) ?_
    rw [List.append_nil]
    exact ha
  · exact h p _ (same_new hp) (SqT.of upd_same)
theorem pe_conv {X : Cx} {e : Expr} {t t' : TE} (h : PE X e t) (c : ∀ σ H Q, t' σ H Q → t σ H Q) : PE X e t' := ⟨fun pins s σ H Q I k => h.run pins s σ H Q I (c σ H Q k)⟩
theorem ps_conv {X : Cx} {e : Stmt} {t t' : TS} (h : PS X e t) (c : ∀ D σ H, t' D σ H → t D σ H) : PS X e t' := ⟨fun pins s σ H D I k => h.run pins s σ H D I (c D σ H k)⟩
theorem ixN_nat {n j : Nat} (h : j < n) : ixN n (j : Int) = some j := by
  unfold ixN
  rw [if_pos (by omega), if_pos (by omega)]
  rfl
theorem atI_last {l : List V} {v : V} : atI (l ++ [v]) (-1) = some v := by
  unfold atI ixN
  rw [if_neg (by decide), if_pos (by rw [List.length_append]; show -((l.length + 1 : Nat) : Int) ≤ -1; omega)]
  show (l ++ [v])[(-1 + ((l ++ [v]).length : Int)).toNat]? = some v
  have : (-1 + ((l ++ [v]).length : Int)).toNat = l.length := by rw [List.length_append, List.length_singleton]; omega
  rw [this]
  simp
/-- t[-1] if t else None -/
def tLast (K : PySem.W.Frag) (i : Nat) : TE := fun σ H Q => ∃ ab xs, σ[i]? = some (some (.ref ab)) ∧ SqT K H ab xs ∧ Q (xs.getLast?.getD .non) H
/-- if not bough: self.leaves.append(node); self.paths.append(path) -/
def tLeafS (K : PySem.W.Frag) (C : Addr) : TS := fun D σ H => ∃ a dx b bs fv L S tp node, σ[0]? = some (some (.ref a)) ∧ σ[1]? = some (some (.ref b)) ∧ σ[4]? = some (some (.int node)) ∧ σ[5]? = some (some (.ref tp)) ∧ TreeAt C H a dx fv L S ∧ SqT K H b bs ∧ (S 8).length < sizeLine ∧ (S 9).length < sizeLine ∧
  ∀ H', TreeAt C H' a dx fv L (if bs = [] then st (st S 8 (S 8 ++ [.int node])) 9 (S 9 ++ [.ref tp]) else S) → Keep L H H' → D.nx σ H'
theorem len_lt_nodes : ∀ t : Dt, t.len < t.nodes
  | x => Nat.lt_succ_self 0
  | o => Nat.lt_succ_self 0
  | c k r => by
    have h1 := len_lt_nodes r
    have h2 := k.nodes_pos
    show r.len + 1 < k.nodes + r.nodes
    omega
theorem sideI_snoc (p : Ad) (i : Nat) : sideI (p ++ [i]) = (i : Nat) := by
  unfold sideI
  rw [List.getLast?_append]
  rfl
theorem pth_snoc (T : Dt) (p : Ad) (i : Nat) : pth T (p ++ [i]) (p ++ [i]).length = pth T p (p.length + 1) := by
  unfold pth
  rw [List.length_append, List.length_singleton]
  refine List.map_congr_left fun k hk => ?_
  have : k ≤ p.length := by
    have := List.mem_range.mp hk
    omega
  rw [List.take_append_of_le_length this]
theorem pth_last (T : Dt) (p : Ad) : (pth T p p.length).getLast?.getD .non = parV T p := by
  unfold parV pth
  rcases List.eq_nil_or_concat p with rfl | ⟨l, i, rfl⟩
  · rfl
  · rw [List.concat_eq_append, if_neg (by simp), List.length_append, List.length_singleton, List.range_succ, List.map_append, List.getLast?_append, List.dropLast_concat]
    simp
theorem rowsN_succ (f : Dt → List Ad) {u k : Dt} {i : Nat} (h : u.kids[i]? = some k) (p : Ad) : (rowsN f u (i + 1)).map (p ++ ·) = (rowsN f u i).map (p ++ ·) ++ (f k).map ((p ++ [i]) ++ ·) := by
  show (rowsN f u i ++ match u.kids[i]? with | some k => (f k).map (List.cons i) | none => []).map (p ++ ·) = _
  rw [h, List.map_append, List.map_map]
  congr 1
  refine List.map_congr_left fun q _ => ?_
  simp
theorem set_mid (l r : List V) (x y : V) (n : Nat) (h : l.length = n) : ((l ++ [x]) ++ r).set n y = l ++ (y :: r) := by
  subst h
  rw [List.append_assoc]
  rw [List.set_append_right _ _ (Nat.le_refl _)]
  simp
/-- what the walks ask of the class -/
structure TCl (K : PySem.W.Frag) (mg : Str → Option Value) (C fG : Addr) : Prop where
  cl : Cls K C
  mG : Meth K C "_grow" fG
  nF : NoAttr K C "form"
  n0 : NoAttr K C "boughs"
  n1 : NoAttr K C "parents"
  n2 : NoAttr K C "kids"
  n3 : NoAttr K C "depths"
  n4 : NoAttr K C "sides"
  n5 : NoAttr K C "lows"
  n6 : NoAttr K C "highs"
  n7 : NoAttr K C "ends"
  n8 : NoAttr K C "leaves"
  n9 : NoAttr K C "paths"
section
variable {P : Program} {w : World} {K : PySem.W.Frag} {mg : Str → Option Value} {base : Heap}
theorem ok_grow {C f : Addr} {fd : FuncData} {n : Nat} (F : Fun K "_grow" "ShapeTree._grow" s_ShapeTree_grow f fd) (b : Binds K fd ["self", "bough", "above", "side"] []) (G : FnOk P w K mg base CX0 n f fd ["self", "bough", "above", "side"] (spGrow K C n))
    (T : Txt K mg) (TC : TCl K mg C f) : FnOk P w K mg base CX0 (n + 1) f fd ["self", "bough", "above", "side"] (spGrow K C (n + 1)) := by
  refine F.ok sc_ShapeTree_grow (fun vs H Q E h => ?_) (fun cdv A outer s H vs Q E hr h => ?_)
  · obtain ⟨a, b, ab, dx, bs, T, u, p, fv, L, S, rfl, _⟩ := h
    rfl
  obtain ⟨a, b', ab, dx, bs, D, u, p, fv, L, S, rfl, TA, hb, hS, hab, hsub, hD, hht, hpl, hst, q⟩ := h
  refine ⟨_, pss_cons (ps_set (i := 4) sc_ShapeTree_grow.nd rfl (.inl rfl) (pe_callB call_len_seq (by rfl) T.len PySem.boot_len (pa_cons (pe_fld (pv 0) rfl) pa_nil)))
    (pss_cons (ps_set (i := 5) sc_ShapeTree_grow.nd rfl (.inl rfl) (pe_op op_catA (pv 2) (pe_tup (pa_cons (pv 4) pa_nil))))
    (pss_cons (ps_expr (pe_bm PySem.F.plainAttrs_list PySem.F.slot_list_append PySem.F.type_list_append mt_append (pe_fld (pv 0) rfl) (pa_cons (pv 1) pa_nil)))
    (pss_cons (ps_expr (pe_bm PySem.F.plainAttrs_list PySem.F.slot_list_append PySem.F.type_list_append mt_append (pe_fld (pv 0) rfl) (pa_cons (pe_conv (t' := tLast K 2) (pe_ifExp (pt_truth (pv 2) (by intro _; rfl)) (pe_ix ix_tup (pv 2) (pe_un un_neg pe_int) (fun _ _ => rfl)) pe_non) (by
      rintro σ H Q ⟨ab, xs, h1, h2, q⟩
      refine ⟨_, h1, !xs.isEmpty, .inr (.inl ⟨xs, h2, rfl⟩), ?_⟩
      rcases List.eq_nil_or_concat xs with rfl | ⟨l, v, rfl⟩
      · exact iteF q
      · rw [show (!(l.concat v).isEmpty) = true by simp]
        rw [List.concat_eq_append] at h2 q
        refine iteT ?_
        refine ⟨_, h1, _, rfl, _, _, _, _, rfl, rfl, h2, atI_last, ?_⟩
        rw [List.getLast?_append] at q
        exact q)) pa_nil)))
    (pss_cons (ps_expr (pe_bm PySem.F.plainAttrs_list PySem.F.slot_list_append PySem.F.type_list_append mt_append (pe_fld (pv 0) rfl) (pa_cons (pe_callB call_len_seq (by rfl) T.len PySem.boot_len (pa_cons (pv 2) pa_nil)) pa_nil)))
    (pss_cons (ps_expr (pe_bm PySem.F.plainAttrs_list PySem.F.slot_list_append PySem.F.type_list_append mt_append (pe_fld (pv 0) rfl) (pa_cons (pv 3) pa_nil)))
    (pss_cons (ps_expr (pe_bm PySem.F.plainAttrs_list PySem.F.slot_list_append PySem.F.type_list_append mt_append (pe_fld (pv 0) rfl) (pa_cons (pe_callB call_len_seq (by rfl) T.len PySem.boot_len (pa_cons (pe_fld (pv 0) rfl) pa_nil)) pa_nil)))
    (pss_cons (ps_expr (pe_bm PySem.F.plainAttrs_list PySem.F.slot_list_append PySem.F.type_list_append mt_append (pe_fld (pv 0) rfl) (pa_cons (pe_tup pa_nil) pa_nil)))
    (pss_cons (ps_expr (pe_bm PySem.F.plainAttrs_list PySem.F.slot_list_append PySem.F.type_list_append mt_append (pe_fld (pv 0) rfl) (pa_cons pe_int pa_nil)))
    (pss_cons (ps_expr (pe_bm PySem.F.plainAttrs_list PySem.F.slot_list_append PySem.F.type_list_append mt_append (pe_fld (pv 0) rfl) (pa_cons pe_int pa_nil)))
    (pss_cons (ps_conv (t' := tLeafS K C) (ps_if (pt_not (pt_truth (pv 1) (by intro _; rfl)))
      (pss_cons (ps_expr (pe_bm PySem.F.plainAttrs_list PySem.F.slot_list_append PySem.F.type_list_append mt_append (pe_fld (pv 0) rfl) (pa_cons (pv 4) pa_nil)))
      (pss_one (ps_expr (pe_bm PySem.F.plainAttrs_list PySem.F.slot_list_append PySem.F.type_list_append mt_append (pe_fld (pv 0) rfl) (pa_cons (pv 5) pa_nil))))) pss_nil) (by
      rintro D σ H ⟨a, dx, b, bs, fv, L, S, tp, node, e0, e1, e4, e5, TA, hb, z8, z9, q⟩
      refine ⟨_, e1, !bs.isEmpty, .inr (.inl ⟨bs, hb, rfl⟩), ?_⟩
      cases bs with
      | nil =>
        refine iteT ?_
        refine ⟨_, e0, a, C, dx, _, _, rfl, TA.ob, TC.cl, TC.n8, stF_8 _ _, .inl ⟨rfl, _, SqL.of (TA.ls 8 (by decide))⟩, _, e4, L 8, _, _, rfl, rfl, TA.ls 8 (by decide), z8, ?_⟩
        have TA1 := TA.put (i := 8) (by decide) (S 8 ++ [.int node])
        refine ⟨_, e0, a, C, dx, _, _, rfl, TA1.ob, TC.cl, TC.n9, stF_9 _ _, .inl ⟨rfl, _, SqL.of (TA1.ls 9 (by decide))⟩, _, e5, L 9, _, _, rfl, rfl, TA1.ls 9 (by decide), z9, ?_⟩
        refine q _ ?_ (((Keep.refl L H).put (i := 8) (by decide) _).put (i := 9) (by decide) _)
        rw [if_pos rfl]
        exact TA1.put (i := 9) (by decide) (S 9 ++ [.ref tp])
      | cons x r =>
        refine iteF ?_
        exact q _ (by rw [if_neg (by simp)]; exact TA) (Keep.refl L H)))
    (pss_cons (ps_set (i := 6) sc_ShapeTree_grow.nd rfl (.inl rfl) (pe_lst pa_nil))
    (pss_cons (ps_for PassesOwn.never rfl (pi_enumT (by rfl) T.enumerate (pa_cons (pv 1) pa_nil)) (pg_tup rfl (pgs_cons (pg_name (i := 7) sc_ShapeTree_grow.nd rfl (.inl rfl)) (pgs_cons (pg_name (i := 8) sc_ShapeTree_grow.nd rfl (.inl rfl)) pgs_nil)))
      (pss_cons (ps_expr (pe_bm PySem.F.plainAttrs_list PySem.F.slot_list_append PySem.F.type_list_append mt_append (pv 6) (pa_cons (pe_callB call_len_seq (by rfl) T.len PySem.boot_len (pa_cons (pe_fld (pv 0) rfl) pa_nil)) pa_nil)))
      (pss_one (ps_expr (pe_meth (pv 0) TC.cl TC.mG G hr b .nil pass0 (pa_cons (pv 8) (pa_cons (pv 5) (pa_cons (pv 7) pa_nil))))))))
    (pss_cons (ps_asg (pe_callTy call_tuple_of (by rfl) T.tuple PyProof.Rows.boot_tuple (pa_cons (pv 6) pa_nil)) (pg_sub (pe_fld (pv 0) rfl) (pv 4) set_list))
    (pss_cons (ps_asg (pe_callB call_len_seq (by rfl) T.len PySem.boot_len (pa_cons (pe_fld (pv 0) rfl) pa_nil)) (pg_sub (pe_fld (pv 0) rfl) (pv 4) set_list))
    (pss_one (ps_asg (pe_callB call_len_seq (by rfl) T.len PySem.boot_len (pa_cons (pe_fld (pv 0) rfl) pa_nil)) (pg_sub (pe_fld (pv 0) rfl) (pv 4) set_list))))))))))))))))), ?_⟩
  have hrec := sub_app D p u hsub
  have hidx := idx_lt hsub
  have hlow := low_le hsub
  have hun := u.nodes_pos
  have hlf : D.lf ≤ D.nodes := by
    rw [← ad_len]
    exact List.length_filter_le _ _
  have hsm : ∀ i, i < 10 → (S i).length ≤ 1000 := fun i hi => by
    rw [hst i hi]
    unfold start
    split <;> omega
  have sz : ∀ i, i < 10 → (S i).length < sizeLine := fun i hi => small1000 (hsm i hi)
  have hl0 : (S 0).length = D.idx p := hst 0 (by decide)
  -- node = len(self.boughs)
  refine ⟨_, rfl, a, C, dx, _, _, rfl, TA.ob, TC.cl, TC.n0, stF_0 _ _, L 0, _, rfl, .inl (SqL.of (TA.ls 0 (by decide))), ?_⟩
  rw [hl0]
  -- path = above + (node,)
  refine ⟨_, rfl, _, rfl, (by show 1 ≤ sizeLine; decide), fun t1 ht1 => ?_⟩
  have s1 : Same H (upd H t1 (.tup [.int (D.idx p : Nat)])) := same_new ht1
  have epl : (pth D p p.length).length = p.length := by unfold pth; rw [List.length_map, List.length_range]
  have epth : pth D p p.length ++ [V.int (D.idx p : Nat)] = pth D p (p.length + 1) := by
    unfold pth
    rw [List.range_succ, List.map_append, List.map_singleton, List.take_length]
  refine rCatA_all (same_sqt s1 hab) (SqT.of upd_same) (Nat.le_of_lt (small1000 (by rw [epl, List.length_singleton]; omega))) fun tp H2 s2' htp => ?_
  rw [epth] at htp
  have s2 : Same H H2 := s1.trans s2'
  have TA2 := TA.same s2
  have K2 : Keep L H2 H2 := Keep.refl L H2
  have hab2 := same_sqt s2 hab
  have hb2 := same_sqt s2 hb
  have hS2 : ShF K H2 bs u := hS.keep (KeepT.of_same s2)
  -- self.boughs.append(bough)
  refine ⟨_, rfl, a, C, dx, _, _, rfl, TA2.ob, TC.cl, TC.n0, stF_0 _ _, .inl ⟨rfl, _, SqL.of (TA2.ls 0 (by decide))⟩, _, rfl, L 0, _, _, rfl, rfl, TA2.ls 0 (by decide), sz 0 (by decide), ?_⟩
  have TA3 := TA2.put (i := 0) (by decide) (S 0 ++ [.ref b'])
  have K3 := K2.put (i := 0) (by decide) (.lst (S 0 ++ [.ref b']))
  revert TA3 K3
  generalize upd H2 (L 0) (.lst (S 0 ++ [.ref b'])) = H3
  intro TA3 K3
  have kt3 := kt_sqt (TA2.keepT K3) hab2
  -- parents
  have l3 : H3 (L 1) = some (.lst (S 1)) := TA3.ls 1 (by decide)
  refine ⟨_, rfl, a, C, dx, _, _, rfl, TA3.ob, TC.cl, TC.n1, stF_1 _ _, .inl ⟨rfl, _, SqL.of l3⟩, ab, _, rfl, kt3, L 1, _, _, rfl, rfl, l3, sz 1 (by decide), ?_⟩
  have TA4 := TA3.put (i := 1) (by decide) (S 1 ++ [(pth D p p.length).getLast?.getD .non])
  have K4 := K3.put (i := 1) (by decide) (.lst (S 1 ++ [(pth D p p.length).getLast?.getD .non]))
  revert TA4 K4
  generalize upd H3 (L 1) (.lst (S 1 ++ [(pth D p p.length).getLast?.getD .non])) = H4
  intro TA4 K4
  have kt4 := kt_sqt (TA2.keepT K4) hab2
  -- depths
  have l4 : H4 (L 3) = some (.lst (S 3)) := TA4.ls 3 (by decide)
  refine ⟨_, rfl, a, C, dx, _, _, rfl, TA4.ob, TC.cl, TC.n3, stF_3 _ _, .inl ⟨rfl, _, SqL.of l4⟩, _, rfl, ab, _, rfl, .inr kt4, L 3, _, _, rfl, rfl, l4, sz 3 (by decide), ?_⟩
  have TA5 := TA4.put (i := 3) (by decide) (S 3 ++ [.int ((pth D p p.length).length : Nat)])
  have K5 := K4.put (i := 3) (by decide) (.lst (S 3 ++ [.int ((pth D p p.length).length : Nat)]))
  revert TA5 K5
  generalize upd H4 (L 3) (.lst (S 3 ++ [.int ((pth D p p.length).length : Nat)])) = H5
  intro TA5 K5
  -- sides
  have l5 : H5 (L 4) = some (.lst (S 4)) := TA5.ls 4 (by decide)
  refine ⟨_, rfl, a, C, dx, _, _, rfl, TA5.ob, TC.cl, TC.n4, stF_4 _ _, .inl ⟨rfl, _, SqL.of l5⟩, _, rfl, L 4, _, _, rfl, rfl, l5, sz 4 (by decide), ?_⟩
  have TA6 := TA5.put (i := 4) (by decide) (S 4 ++ [.int (sideI p)])
  have K6 := K5.put (i := 4) (by decide) (.lst (S 4 ++ [.int (sideI p)]))
  revert TA6 K6
  generalize upd H5 (L 4) (.lst (S 4 ++ [.int (sideI p)])) = H6
  intro TA6 K6
  have m6 : H6 (L 8) = some (.lst (S 8)) := TA6.ls 8 (by decide)
  -- lows
  have l6 : H6 (L 5) = some (.lst (S 5)) := TA6.ls 5 (by decide)
  refine ⟨_, rfl, a, C, dx, _, _, rfl, TA6.ob, TC.cl, TC.n5, stF_5 _ _, .inl ⟨rfl, _, SqL.of l6⟩, _, rfl, a, C, dx, _, _, rfl, TA6.ob, TC.cl, TC.n8, stF_8 _ _, L 8, _, rfl, .inl (SqL.of m6), L 5, _, _, rfl, rfl, l6, sz 5 (by decide), ?_⟩
  have TA7 := TA6.put (i := 5) (by decide) (S 5 ++ [.int ((S 8).length : Nat)])
  have K7 := K6.put (i := 5) (by decide) (.lst (S 5 ++ [.int ((S 8).length : Nat)]))
  revert TA7 K7
  generalize upd H6 (L 5) (.lst (S 5 ++ [.int ((S 8).length : Nat)])) = H7
  intro TA7 K7
  -- kids
  have l7 : H7 (L 2) = some (.lst (S 2)) := TA7.ls 2 (by decide)
  refine ⟨_, rfl, a, C, dx, _, _, rfl, TA7.ob, TC.cl, TC.n2, stF_2 _ _, .inl ⟨rfl, _, SqL.of l7⟩, (by show 0 ≤ sizeLine; decide), fun t2 ht2 => ?_⟩
  have s7 : Same H7 (upd H7 t2 (.tup [])) := same_new ht2
  have TA7' := TA7.same s7
  have K7' := K7.same s7
  have l7' : (upd H7 t2 (.tup [])) (L 2) = some (.lst (S 2)) := s7 _ _ l7
  refine ⟨L 2, _, _, rfl, rfl, l7', sz 2 (by decide), ?_⟩
  have TA8 := TA7'.put (i := 2) (by decide) (S 2 ++ [.ref t2])
  have K8 := K7'.put (i := 2) (by decide) (.lst (S 2 ++ [.ref t2]))
  revert TA8 K8
  generalize upd (upd H7 t2 (.tup [])) (L 2) (.lst (S 2 ++ [.ref t2])) = H8
  intro TA8 K8
  -- highs
  have l8 : H8 (L 6) = some (.lst (S 6)) := TA8.ls 6 (by decide)
  refine ⟨_, rfl, a, C, dx, _, _, rfl, TA8.ob, TC.cl, TC.n6, stF_6 _ _, .inl ⟨rfl, _, SqL.of l8⟩, L 6, _, _, rfl, rfl, l8, sz 6 (by decide), ?_⟩
  have TA9 := TA8.put (i := 6) (by decide) (S 6 ++ [.int 0])
  have K9 := K8.put (i := 6) (by decide) (.lst (S 6 ++ [.int 0]))
  revert TA9 K9
  generalize upd H8 (L 6) (.lst (S 6 ++ [.int 0])) = H9
  intro TA9 K9
  -- ends
  have l9 : H9 (L 7) = some (.lst (S 7)) := TA9.ls 7 (by decide)
  refine ⟨_, rfl, a, C, dx, _, _, rfl, TA9.ob, TC.cl, TC.n7, stF_7 _ _, .inl ⟨rfl, _, SqL.of l9⟩, L 7, _, _, rfl, rfl, l9, sz 7 (by decide), ?_⟩
  have TA10 := TA9.put (i := 7) (by decide) (S 7 ++ [.int 0])
  have K10 := K9.put (i := 7) (by decide) (.lst (S 7 ++ [.int 0]))
  revert TA10 K10
  generalize upd H9 (L 7) (.lst (S 7 ++ [.int 0])) = H10
  intro TA10 K10
  -- if not bough
  have hb10 : SqT K H10 b' bs := kt_sqt (TA2.keepT K10) hb2
  refine ⟨a, dx, b', bs, fv, L, _, tp, _, rfl, rfl, rfl, rfl, TA10, hb10, sz 8 (by decide), sz 9 (by decide), fun H11 TA11 K11' => ?_⟩
  have hul : bs.length = u.len := hS.len
  have ex : ∃ S11 : Nat → List V, TreeAt C H11 a dx fv L S11 ∧ S11 0 = S 0 ++ [.ref b'] ∧ S11 1 = S 1 ++ [parV D p] ∧ (∃ o, S11 2 = S 2 ++ [o]) ∧ S11 3 = S 3 ++ [.int (p.length : Nat)] ∧ S11 4 = S 4 ++ [.int (sideI p)] ∧ S11 5 = S 5 ++ [.int (D.low p : Nat)] ∧
      (∃ o, S11 6 = S 6 ++ [o]) ∧ (∃ o, S11 7 = S 7 ++ [o]) ∧ S11 8 = (if bs = [] then S 8 ++ [.int (D.idx p : Nat)] else S 8) ∧ S11 9 = (if bs = [] then S 9 ++ [.ref tp] else S 9) := by
    refine ⟨_, TA11, ?_⟩
    rw [pth_last, epl, hst 8 (by decide)]
    by_cases e : bs = []
    · simp only [if_pos e]
      exact ⟨rfl, rfl, ⟨_, rfl⟩, rfl, rfl, rfl, ⟨_, rfl⟩, ⟨_, rfl⟩, rfl, rfl⟩
    · simp only [if_neg e]
      exact ⟨rfl, rfl, ⟨_, rfl⟩, rfl, rfl, rfl, ⟨_, rfl⟩, ⟨_, rfl⟩, rfl, rfl⟩
  clear TA11
  obtain ⟨S11, TA11, q0, q1, ⟨o2, q2⟩, q3, q4, q5, ⟨o6, q6⟩, ⟨o7, q7⟩, q8, q9⟩ := ex
  have K11 : Keep L H2 H11 := K10.trans K11'
  have hb11 : SqT K H11 b' bs := kt_sqt (TA2.keepT K11) hb2
  have hS11 : ShF K H11 bs u := hS2.keep (TA2.keepT K11)
  have htp11 : SqT K H11 tp (pth D p (p.length + 1)) := kt_sqt (TA2.keepT K11) htp
  have KH : Keep L H H11 := fun y o h n => K11 y o (s2 y o h) n
  clear TA3 TA4 TA5 TA6 TA7 TA7' TA8 TA9 TA10 K3 K4 K5 K6 K7 K7' K8 K9 K10 K11'
  have lS : ∀ k, k < 8 → (S11 k).length = D.idx p + 1 := by
    have e : ∀ k, k < 8 → (S k).length = D.idx p := fun k hk => by
      rw [hst k (by omega)]
      unfold start
      rw [if_pos hk]
    intro k hk
    match k, hk with
    | 0, h => rw [q0, List.length_append, e 0 h]; rfl
    | 1, h => rw [q1, List.length_append, e 1 h]; rfl
    | 2, h => rw [q2, List.length_append, e 2 h]; rfl
    | 3, h => rw [q3, List.length_append, e 3 h]; rfl
    | 4, h => rw [q4, List.length_append, e 4 h]; rfl
    | 5, h => rw [q5, List.length_append, e 5 h]; rfl
    | 6, h => rw [q6, List.length_append, e 6 h]; rfl
    | 7, h => rw [q7, List.length_append, e 7 h]; rfl
  have lS8 : ∀ k, k = 8 ∨ k = 9 → (S11 k).length = D.low p + (if bs = [] then 1 else 0) := by
    rintro k (rfl | rfl)
    · rw [q8]
      have e := hst 8 (by decide)
      unfold start at e
      rw [if_neg (by decide)] at e
      split
      · rw [List.length_append, e]; rfl
      · exact e
    · rw [q9]
      have e := hst 9 (by decide)
      unfold start at e
      rw [if_neg (by decide)] at e
      split
      · rw [List.length_append, e]; rfl
      · exact e
  -- kids = []; for place, kid in enumerate(bough)
  refine ⟨(by show 0 ≤ sizeLine; decide), fun lk hlk => ?_⟩
  have s12 : Same H11 (upd H11 lk (.lst [])) := same_new hlk
  have lkL : ∀ i, i < 10 → lk ≠ L i := fun i hi e => by
    rw [e, TA11.ls i hi] at hlk
    exact nomatch hlk
  have lka : lk ≠ a := fun e => by
    rw [e, TA11.ob] at hlk
    exact nomatch hlk
  refine ⟨_, rfl, b', bs, rfl, same_sqt s12 hb11, for_it walk_enumT (fun i σ H' => ∃ (S' : Nat → List V) (o7 o8 : Option V), σ = [some (.ref a), some (.ref b'), some (.ref ab), some (.int (sideI p)), some (.int (D.idx p : Nat)), some (.ref tp), some (.ref lk), o7, o8] ∧
    TreeAt C H' a dx fv L S' ∧ Keep L H11 H' ∧ H' lk = some (.lst ((List.range i).map fun j => V.int (D.idx (p ++ [j]) : Nat))) ∧ Grown K H' D (fun k => (rowsN (aof k) u i).map (p ++ ·)) S11 S')
    ⟨S11, none, none, rfl, TA11.same s12, fun y o h _ => s12 _ _ h, upd_same, fun k _ => ⟨[], (List.append_nil _).symm, .nil⟩⟩ (fun i σ H' _ ⟨_, _, _, _, _, k, _⟩ => kt_sqt (TA11.keepT k) hb11) ?_ ?_⟩
  · rintro i y σ H' H'' hi ⟨S', o7, o8, rfl, TA', K', hlk', G'⟩ hY
    obtain ⟨T0, x', y', rfl, hT0, rfl, hx', hy'⟩ := hY
    obtain rfl : V.int (i : Nat) = x' := Option.some.inj hx'
    obtain ⟨kd, hkd, bk, ks, rfl, hsk, hFk⟩ := hS11.at i y' hy'
    have sT : Same H' (upd H' T0 (.tup [.int (i : Nat), .ref bk])) := same_new hT0
    have hiu : i < u.len := by omega
    have eidx := idx_rows u i hiu
    have elow := low_rows hsub i hiu
    obtain ⟨er1, er2⟩ := hrec [i]
    have hsub' : D.sub (p ++ [i]) = some kd := by
      rw [er1, sub_one]
      exact hkd
    have hbs : bs ≠ [] := fun e => by
      rw [e] at hi
      exact absurd hi (Nat.not_lt_zero _)
    have ln : ∀ k, k < 10 → (S' k).length = start D (p ++ [i]) k := by
      intro k hk
      obtain ⟨R, eR, pR⟩ := G' k hk
      have e1 := Paired.len pR
      rw [List.length_map] at e1
      rw [eR, List.length_append, e1]
      unfold start
      by_cases h8 : k < 8
      · rw [lS k h8, if_pos h8, er2, eidx]
        unfold aof
        rw [if_pos h8]
        omega
      · rw [lS8 k (by omega), if_neg h8, if_neg hbs, elow]
        unfold aof
        rw [if_neg h8]
        omega
    have l0 : (S' 0).length = D.idx (p ++ [i]) := ln 0 (by decide)
    have TAT := TA'.same sT
    -- kids.append(len(self.boughs))
    have hlkT := sT _ _ hlk'
    have hiN : i < D.nodes := by
      have := len_lt_nodes u
      omega
    refine ⟨T0, _, rfl, SqT.of upd_same, rfl, _, _, rfl, _, _, rfl, rfl, ?_⟩
    refine ⟨_, rfl, .inl ⟨rfl, _, SqL.of hlkT⟩, _, rfl, a, C, dx, _, _, rfl, TAT.ob, TC.cl, TC.n0, stF_0 _ _, L 0, _, rfl, .inl (SqL.of (TAT.ls 0 (by decide))), lk, _, _, rfl, rfl, hlkT, small1000 (by rw [List.length_map, List.length_range]; omega), ?_⟩
    rw [l0]
    have eks : ((List.range i).map fun j => V.int (D.idx (p ++ [j]) : Nat)) ++ [V.int (D.idx (p ++ [i]) : Nat)] = (List.range (i + 1)).map fun j => V.int (D.idx (p ++ [j]) : Nat) := by
      rw [List.range_succ, List.map_append, List.map_singleton]
    rw [eks]
    have TAU : TreeAt C (upd (upd H' T0 (.tup [.int (i : Nat), .ref bk])) lk (.lst ((List.range (i + 1)).map fun j => V.int (D.idx (p ++ [j]) : Nat)))) a dx fv L S' :=
      ⟨by rw [upd_ne (Ne.symm lka)]; exact TAT.ob, fun j hj => by rw [upd_ne (Ne.symm (lkL j hj))]; exact TAT.ls j hj, TAT.inj⟩
    have KU : Keep L H11 (upd (upd H' T0 (.tup [.int (i : Nat), .ref bk])) lk (.lst ((List.range (i + 1)).map fun j => V.int (D.idx (p ++ [j]) : Nat)))) := fun y o h n => by
      rw [upd_ne (ne_of_none h hlk)]
      exact sT _ _ (K' y o h n)
    have lkU : (upd (upd H' T0 (.tup [.int (i : Nat), .ref bk])) lk (.lst ((List.range (i + 1)).map fun j => V.int (D.idx (p ++ [j]) : Nat)))) lk = _ := upd_same
    have tU : KeepT H' (upd (upd H' T0 (.tup [.int (i : Nat), .ref bk])) lk (.lst ((List.range (i + 1)).map fun j => V.int (D.idx (p ++ [j]) : Nat)))) := fun y xs =>
      ⟨fun h => by rw [upd_ne (fun e => by rw [e, hlk'] at h; exact HO.noConfusion (Option.some.inj h))]; exact sT _ _ h, fun o h => by rw [upd_ne (fun e => by rw [e, hlk'] at h; exact HO.noConfusion (Option.some.inj h))]; exact sT _ _ h⟩
    revert TAU KU lkU tU
    generalize upd (upd H' T0 (.tup [.int (i : Nat), .ref bk])) lk (.lst ((List.range (i + 1)).map fun j => V.int (D.idx (p ++ [j]) : Nat))) = HU
    intro TAU KU lkU tU
    -- self._grow(kid, path, place)
    have kU := TA11.keepT KU
    refine ⟨_, rfl, a, dx, _, rfl, TAU.ob, stF_grow _ _, _, rfl, _, rfl, _, rfl, a, bk, tp, dx, ks, D, kd, p ++ [i], fv, L, S', congrArg (fun z => [V.ref a, V.ref bk, V.ref tp, V.int z]) (sideI_snoc p i).symm, TAU, kt_sqt kU hsk, hFk.keep kU, by rw [pth_snoc]; exact kt_sqt kU htp11, hsub', hD, ?_, ?_, ln, fun H3 S3 TA3 K3 G3 => ?_⟩
    · have := ht_kid u i kd hkd
      omega
    · rw [List.length_append, List.length_singleton]
      omega
    refine ⟨S3, _, _, rfl, TA3, KU.trans K3, K3 _ _ lkU lkL, fun k hk => ?_⟩
    obtain ⟨R1, eR1, pR1⟩ := G' k hk
    obtain ⟨R2, eR2, pR2⟩ := G3 k hk
    refine ⟨R1 ++ R2, by rw [eR2, eR1, List.append_assoc], ?_⟩
    show Paired (Cell K H3 D k) (R1 ++ R2) ((rowsN (aof k) u (i + 1)).map fun x => p ++ x)
    rw [rowsN_succ _ hkd]
    exact Paired.app (Paired.mono (fun v q c => Cell.keep (tU.trans (TAU.keepT K3)) k v q c) pR1) pR2
  · rintro σ H' ⟨S', o7, o8, rfl, TA', K', hlk', G'⟩
    rw [hul] at hlk' G'
    have kt' := TA11.keepT K'
    have hn8 : ∀ k, k < 8 → (S' k).length = D.idx p + u.nodes := by
      intro k hk
      obtain ⟨R, eR, pR⟩ := G' k (by omega)
      have e1 := Paired.len pR
      rw [List.length_map] at e1
      have e2 := ad_len u
      rw [ad_rows, List.length_cons] at e2
      rw [eR, List.length_append, e1, lS k hk]
      unfold aof
      rw [if_pos hk]
      omega
    have hq8 : (S' 8).length = D.low p + u.lf := by
      obtain ⟨R, eR, pR⟩ := G' 8 (by decide)
      have e1 := Paired.len pR
      rw [List.length_map] at e1
      rw [eR, List.length_append, e1, lS8 8 (.inl rfl), show aof 8 = lv from rfl]
      by_cases e : bs = []
      · rw [if_pos e]
        have e3 : u.len = 0 := by rw [← hul, e]; rfl
        rw [e3]
        unfold lf
        rw [(lv_leaf e3).1]
        rfl
      · rw [if_neg e]
        have e3 : u.len ≠ 0 := fun z => e (List.eq_nil_of_length_eq_zero (by omega))
        unfold lf
        rw [← lv_rows u e3]
        rfl
    have jn : D.idx p < D.idx p + u.nodes := by omega
    -- self.kids[node] = tuple(kids)
    refine ⟨_, rfl, lk, _, rfl, .inl ⟨SqL.of hlk', fun t3 ht3 => ?_⟩⟩
    have sA : Same H' (upd H' t3 (.tup ((List.range u.len).map fun j => V.int (D.idx (p ++ [j]) : Nat)))) := same_new ht3
    have TAA := TA'.same sA
    have mA := TAA.ls 2 (by decide)
    refine ⟨_, rfl, a, C, dx, _, _, rfl, TAA.ob, TC.cl, TC.n2, stF_2 _ _, _, rfl, L 2, _, _, D.idx p, rfl, rfl, mA, ixN_nat (by rw [hn8 2 (by decide)]; exact jn), ?_⟩
    have TAB := TAA.put (i := 2) (by decide) ((S' 2).set (D.idx p) (.ref t3))
    have KB := ((Keep.refl L H').same sA).put (i := 2) (by decide) (.lst ((S' 2).set (D.idx p) (.ref t3)))
    have hB3 : (upd (upd H' t3 (.tup ((List.range u.len).map fun j => V.int (D.idx (p ++ [j]) : Nat)))) (L 2) (.lst ((S' 2).set (D.idx p) (.ref t3)))) t3 = some (.tup (kidV D p u)) := by
      rw [upd_ne, upd_same]
      · rfl
      · intro e
        rw [e, TA'.ls 2 (by decide)] at ht3
        exact nomatch ht3
    revert TAB KB hB3
    generalize upd (upd H' t3 (.tup ((List.range u.len).map fun j => V.int (D.idx (p ++ [j]) : Nat)))) (L 2) (.lst ((S' 2).set (D.idx p) (.ref t3))) = HB
    intro TAB KB hB3
    -- self.highs[node] = len(self.leaves)
    have mB : HB (L 8) = some (.lst (S' 8)) := TAB.ls 8 (by decide)
    have mB6 : HB (L 6) = some (.lst (S' 6)) := TAB.ls 6 (by decide)
    refine ⟨_, rfl, a, C, dx, _, _, rfl, TAB.ob, TC.cl, TC.n8, stF_8 _ _, L 8, _, rfl, .inl (SqL.of mB), _, rfl, a, C, dx, _, _, rfl, TAB.ob, TC.cl, TC.n6, stF_6 _ _, _, rfl, L 6, _, _, D.idx p, rfl, rfl, mB6, ixN_nat (by rw [hn8 6 (by decide)]; exact jn), ?_⟩
    rw [hq8]
    have TAC := TAB.put (i := 6) (by decide) ((S' 6).set (D.idx p) (.int (D.low p + u.lf : Nat)))
    have KC := KB.put (i := 6) (by decide) (.lst ((S' 6).set (D.idx p) (.int (D.low p + u.lf : Nat))))
    have hC3 := (TAB.keepT ((Keep.refl L HB).put (i := 6) (by decide) (.lst ((S' 6).set (D.idx p) (.int (D.low p + u.lf : Nat)))))  t3 _).1 hB3
    revert TAC KC hC3
    generalize upd HB (L 6) (.lst ((S' 6).set (D.idx p) (.int (D.low p + u.lf : Nat)))) = HC
    intro TAC KC hC3
    -- self.ends[node] = len(self.boughs)
    have mC : HC (L 0) = some (.lst (S' 0)) := TAC.ls 0 (by decide)
    have mC7 : HC (L 7) = some (.lst (S' 7)) := TAC.ls 7 (by decide)
    refine ⟨_, rfl, a, C, dx, _, _, rfl, TAC.ob, TC.cl, TC.n0, stF_0 _ _, L 0, _, rfl, .inl (SqL.of mC), _, rfl, a, C, dx, _, _, rfl, TAC.ob, TC.cl, TC.n7, stF_7 _ _, _, rfl, L 7, _, _, D.idx p, rfl, rfl, mC7, ixN_nat (by rw [hn8 7 (by decide)]; exact jn), ?_⟩
    rw [hn8 0 (by decide)]
    have TAD := TAC.put (i := 7) (by decide) ((S' 7).set (D.idx p) (.int (D.idx p + u.nodes : Nat)))
    have KD := KC.put (i := 7) (by decide) (.lst ((S' 7).set (D.idx p) (.int (D.idx p + u.nodes : Nat))))
    have hD3 := (TAC.keepT ((Keep.refl L HC).put (i := 7) (by decide) (.lst ((S' 7).set (D.idx p) (.int (D.idx p + u.nodes : Nat)))))  t3 _).1 hC3
    revert TAD KD hD3
    generalize upd HC (L 7) (.lst ((S' 7).set (D.idx p) (.int (D.idx p + u.nodes : Nat)))) = HD
    intro TAD KD hD3
    refine q HD _ TAD ((KH.trans K').trans KD) ?_
    have ktD := TA'.keepT KD
    have cells : ∀ k, k < 8 → ∀ R, Paired (Cell K H' D k) R ((rowsN (aof k) u u.len).map (p ++ ·)) → ∀ v, Cell K HD D k v p → Paired (Cell K HD D k) (v :: R) ((aof k u).map (p ++ ·)) := by
      intro k hk R pR v hv
      have e : aof k u = [] :: rowsN (aof k) u u.len := by
        unfold aof
        rw [if_pos hk]
        exact ad_rows u
      rw [e, List.map_cons, List.append_nil]
      exact .cons hv (Paired.mono (fun v q c => Cell.keep ktD k v q c) pR)
    have cellsL : ∀ k, k = 8 ∨ k = 9 → ∀ R, Paired (Cell K H' D k) R ((rowsN (aof k) u u.len).map (p ++ ·)) → ∀ v, Cell K HD D k v p → ∃ R', (if bs = [] then S k ++ [v] else S k) ++ R = S k ++ R' ∧ Paired (Cell K HD D k) R' ((aof k u).map (p ++ ·)) := by
      intro k hk R pR v hv
      have ea : aof k = lv := by
        unfold aof
        rw [if_neg (by omega)]
      rw [ea] at pR ⊢
      by_cases e : bs = []
      · have e3 : u.len = 0 := by rw [← hul, e]; rfl
        rw [e3] at pR
        have pR' : Paired (Cell K H' D k) R [] := pR
        cases pR'
        refine ⟨[v], by rw [if_pos e, List.append_nil], ?_⟩
        rw [(lv_leaf e3).1]
        show Paired _ [v] [p ++ []]
        rw [List.append_nil]
        exact .cons hv .nil
      · have e3 : u.len ≠ 0 := fun z => e (List.eq_nil_of_length_eq_zero (by omega))
        refine ⟨R, by rw [if_neg e], ?_⟩
        rw [lv_rows u e3]
        exact Paired.mono (fun v q c => Cell.keep ktD k v q c) pR
    have hl : ∀ k, k < 8 → (S k).length = D.idx p := fun k hk => by
      rw [hst k (by omega)]
      unfold start
      rw [if_pos hk]
    intro k hk
    obtain ⟨R, eR, pR⟩ := G' k hk
    have htpD : SqT K HD tp (pth D p (p.length + 1)) := kt_sqt (kt'.trans ktD) htp11
    have hbD : SqT K HD b' bs := kt_sqt (kt'.trans ktD) hb11
    have hFD : ShF K HD bs u := hS11.keep (kt'.trans ktD)
    match k, hk, eR, pR with
    | 0, _, eR, pR => exact ⟨.ref b' :: R, by show S' 0 = _; rw [eR, q0]; simp, cells 0 (by decide) R pR _ ⟨u, hsub, b', bs, rfl, hbD, hFD⟩⟩
    | 1, _, eR, pR => exact ⟨parV D p :: R, by show S' 1 = _; rw [eR, q1]; simp, cells 1 (by decide) R pR _ rfl⟩
    | 2, _, eR, pR => exact ⟨.ref t3 :: R, by show (S' 2).set (D.idx p) (.ref t3) = _; rw [eR, q2]; exact set_mid _ _ _ _ _ (hl 2 (by decide)), cells 2 (by decide) R pR _ ⟨u, t3, hsub, rfl, SqT.of hD3⟩⟩
    | 3, _, eR, pR => exact ⟨.int (p.length : Nat) :: R, by show S' 3 = _; rw [eR, q3]; simp, cells 3 (by decide) R pR _ rfl⟩
    | 4, _, eR, pR => exact ⟨.int (sideI p) :: R, by show S' 4 = _; rw [eR, q4]; simp, cells 4 (by decide) R pR _ rfl⟩
    | 5, _, eR, pR => exact ⟨.int (D.low p : Nat) :: R, by show S' 5 = _; rw [eR, q5]; simp, cells 5 (by decide) R pR _ rfl⟩
    | 6, _, eR, pR => exact ⟨.int (D.low p + u.lf : Nat) :: R, by show (S' 6).set (D.idx p) _ = _; rw [eR, q6]; exact set_mid _ _ _ _ _ (hl 6 (by decide)), cells 6 (by decide) R pR _ ⟨u, hsub, rfl⟩⟩
    | 7, _, eR, pR => exact ⟨.int (D.idx p + u.nodes : Nat) :: R, by show (S' 7).set (D.idx p) _ = _; rw [eR, q7]; exact set_mid _ _ _ _ _ (hl 7 (by decide)), cells 7 (by decide) R pR _ ⟨u, hsub, rfl⟩⟩
    | 8, _, eR, pR =>
      obtain ⟨R', e1, e2⟩ := cellsL 8 (.inl rfl) R pR (.int (D.idx p : Nat)) rfl
      exact ⟨R', by show S' 8 = _; rw [eR, q8]; exact e1, e2⟩
    | 9, _, eR, pR =>
      obtain ⟨R', e1, e2⟩ := cellsL 9 (.inr rfl) R pR (.ref tp) ⟨tp, rfl, htpD⟩
      exact ⟨R', by show S' 9 = _; rw [eR, q9]; exact e1, e2⟩
end
end K65
set_option Elab.async false
set_option linter.all false
set_option maxRecDepth 100000
set_option maxHeartbeats 4000000
namespace K65
open PySem PySem.Spec PyProof.Rows L2 Dt
theorem DtF.good {K : PySem.W.Frag} {H : Hp} {vs : List V} {t : Dt} (h : DtF K H vs t) : t.deep 1 = true → ShF K H vs t := by
  induction h with
  | nil => exact fun _ => .nil
  | bad h n q ih =>
    intro g
    exact nomatch (show (false : Bool) = true by simpa [Dt.deep, Dt.here, Dt.isx] using g)
  | @tup a vs ws k r h p q ih1 ih2 =>
    intro g
    have g' : (here 1 k && deep 1 k && deep 1 r) = true := g
    simp only [Bool.and_eq_true] at g'
    exact .cons h (ih1 g'.1.2) (ih2 g'.2)
theorem DtV.good {K : PySem.W.Frag} {H : Hp} {v : V} {t : Dt} (h : DtV K H v t) (g : t.good 1 = true) : ShV K H v t := by
  rcases h with ⟨rfl, _⟩ | ⟨a, vs, h1, h2, h3⟩
  · exact nomatch (show (false : Bool) = true by simpa [Dt.good, Dt.here, Dt.isx] using g)
  · unfold Dt.good at g
    rw [Bool.and_eq_true] at g
    exact ⟨a, vs, h1, h2, h3.good g.2⟩
theorem getD_at (l : List Addr) (i : Nat) (h : i < l.length) : l.getD i 0 = l[i] := by
  simp [List.getElem?_eq_getElem h]
/-- the lists of a whole tree -/
def Full (K : PySem.W.Frag) (H : Hp) (T : Dt) (S : Nat → List V) : Prop := ∀ i, i < 10 → Paired (Cell K H T i) (S i) (aof i T)
structure InitAt (C : Addr) (H0 H : Hp) (a dx : Addr) (fs : List (Str × V)) (ls : List Addr) : Prop where
  ob : H a = some (.ins C dx fs)
  em : ∀ l ∈ ls, H l = some (.lst [])
  nd : ls.Nodup
  kp : ∀ y o, H0 y = some o → y ≠ a → H y = some o
  fr : ∀ l ∈ ls, H0 l = none
theorem InitAt.step {C : Addr} {H0 H : Hp} {a dx l : Addr} {fs fs' : List (Str × V)} {ls : List Addr} (h : InitAt C H0 H a dx fs ls) (hl : H l = none) : (upd H l (.lst [])) a = some (.ins C dx fs) ∧ InitAt C H0 (upd (upd H l (.lst [])) a (.ins C dx fs')) a dx fs' (ls ++ [l]) := by
  have ela : l ≠ a := fun e => by
    rw [e, h.ob] at hl
    exact nomatch hl
  have hnl : ∀ m ∈ ls, m ≠ l := fun m hm e => by
    have := h.em m hm
    rw [e, hl] at this
    exact nomatch this
  refine ⟨by rw [upd_ne (Ne.symm ela)]; exact h.ob, upd_same, fun m hm => ?_, ?_, fun y o e hy => ?_, fun m hm => ?_⟩
  · rcases List.mem_append.mp hm with hm | hm
    · rw [upd_ne, upd_ne (hnl m hm)]
      · exact h.em m hm
      · intro e
        have := h.em m hm
        rw [e, h.ob] at this
        exact HO.noConfusion (Option.some.inj this)
    · obtain rfl : m = l := by simpa using hm
      rw [upd_ne ela, upd_same]
  · refine List.nodup_append.mpr ⟨h.nd, by simp, fun x hx y hy => ?_⟩
    obtain rfl : y = l := by simpa using hy
    exact hnl x hx
  · rw [upd_ne hy, upd_ne (ne_of_none (h.kp y o e hy) hl)]
    exact h.kp y o e hy
  · rcases List.mem_append.mp hm with hm | hm
    · exact h.fr m hm
    · obtain rfl : m = l := by simpa using hm
      cases e : H0 m with
      | none => rfl
      | some o =>
        have := h.kp m o e ela
        rw [hl] at this
        exact nomatch this
def spInit (K : PySem.W.Frag) (C U : Addr) (n : Nat) : Sp := fun vs H Q E => ∃ (a dx : Addr) (v : V) (t : Dt), vs = [.ref a, v] ∧ H a = some (.ins C dx []) ∧ DtV K H v t ∧ t.size ≤ 100000 ∧
  (t.good 1 = true → t.ht < n ∧ t.nodes ≤ 1000 ∧ ∀ H' L S, TreeAt C H' a dx v L S → (∀ y o, H y = some o → y ≠ a → H' y = some o) → Full K H' t S → (∀ i, i < 10 → H (L i) = none) → Q .non H') ∧
  (t.good 1 = false → ∀ H' d, Same H H' → H' d = none → E (.ref U) (some d) (upd H' d (xdO "form" (-1))))
section
variable {P : Program} {w : World} {K : PySem.W.Frag} {mg : Str → Option Value} {base : Heap}
theorem ok_init {C U f fG : Addr} {fd fdG : FuncData} (F : Fun K "__init__" "ShapeTree.__init__" s_ShapeTree_init f fd) (bG : Binds K fdG ["self", "bough", "above", "side"] []) (G : FnOk P w K mg base CX0 20 fG fdG ["self", "bough", "above", "side"] (spGrow K C 20))
    (TC : TCl K mg C fG) (GN : CalX P w K mg base (L2.CX P w) 4 "need_shape" ["form", "word"] (spNeedShape K U)) : FnOk P w K mg base (L2.CX P w) 21 f fd ["self", "form"] (spInit K C U 20) := by
  refine F.okX sc_ShapeTree_init (fun vs H Q E h => ?_) (fun cdv A outer s H vs Q E hr h => ?_)
  · obtain ⟨a, dx, v, t, rfl, _⟩ := h
    rfl
  obtain ⟨a, dx, v, t, rfl, ho, hv, hz, q1, q2⟩ := h
  refine ⟨_, pss_cons (ps_expr (pe_cx GN hr (by decide) rfl (passes_call (takes_of rfl rfl rfl rfl) (fun _ _ _ _ h => h)) (pa_cons (pv 1) (pa_cons pe_str pa_nil))))
    (pss_cons (ps_fld (pv 0) (pv 1) rfl)
    (pss_cons (ps_fld (pv 0) (pe_lst pa_nil) rfl)
    (pss_cons (ps_fld (pv 0) (pe_lst pa_nil) rfl)
    (pss_cons (ps_fld (pv 0) (pe_lst pa_nil) rfl)
    (pss_cons (ps_fld (pv 0) (pe_lst pa_nil) rfl)
    (pss_cons (ps_fld (pv 0) (pe_lst pa_nil) rfl)
    (pss_cons (ps_fld (pv 0) (pe_lst pa_nil) rfl)
    (pss_cons (ps_fld (pv 0) (pe_lst pa_nil) rfl)
    (pss_cons (ps_fld (pv 0) (pe_lst pa_nil) rfl)
    (pss_cons (ps_fld (pv 0) (pe_lst pa_nil) rfl)
    (pss_cons (ps_fld (pv 0) (pe_lst pa_nil) rfl)
    (pss_one (ps_expr (pe_meth (pv 0) TC.cl TC.mG G hr bG .nil pass0 (pa_cons (pv 1) (pa_cons (pe_tup pa_nil) (pa_cons (pe_un un_neg pe_int) pa_nil))))))))))))))))), ?_⟩
  refine ⟨_, rfl, v, t, "form", rfl, hv, hz, fun g H' sm => ?_, fun g H' d sm hd => q2 g H' d sm hd⟩
  obtain ⟨q1a, q1b, q1c⟩ := q1 g
  have ho' := sm _ _ ho
  refine ⟨_, rfl, _, rfl, a, C, dx, [], rfl, ho', TC.cl, TC.nF, (by show 0 < 1000; decide), ?_⟩
  have I0 : InitAt C H (upd H' a (.ins C dx (putF "form" v []))) a dx [("form", v)] [] := ⟨upd_same, (fun _ h => nomatch h), List.nodup_nil, fun y o e hy => by rw [upd_ne hy]; exact sm _ _ e, fun _ h => nomatch h⟩
  revert I0
  generalize upd H' a (.ins C dx (putF "form" v [])) = H0
  intro I0
  refine ⟨(by show 0 ≤ sizeLine; decide), fun l0 hl0 => ?_⟩
  obtain ⟨o0, I1⟩ := I0.step (fs' := (([("form", v)] : List (Str × V)) ++ ([("boughs", V.ref l0)] : List (Str × V)))) hl0
  refine ⟨_, rfl, a, C, dx, _, rfl, o0, TC.cl, TC.n0, (by show 1 < 1000; decide), ?_⟩
  rw [putF_new (f := ("boughs" : Str)) (v := V.ref l0) (fs := ([("form", v)] : List (Str × V))) (show ∀ g ∈ (["form"] : List Str), ¬ g = "boughs" by decide +kernel)]
  revert I1
  generalize upd (upd H0 l0 (.lst [])) a (.ins C dx (([("form", v)] : List (Str × V)) ++ ([("boughs", V.ref l0)] : List (Str × V)))) = H1
  intro I1
  refine ⟨(by show 0 ≤ sizeLine; decide), fun l1 hl1 => ?_⟩
  obtain ⟨o1, I2⟩ := I1.step (fs' := ((([("form", v)] : List (Str × V)) ++ ([("boughs", V.ref l0)] : List (Str × V))) ++ ([("parents", V.ref l1)] : List (Str × V)))) hl1
  refine ⟨_, rfl, a, C, dx, _, rfl, o1, TC.cl, TC.n1, (by show 2 < 1000; decide), ?_⟩
  rw [putF_new (f := ("parents" : Str)) (v := V.ref l1) (fs := (([("form", v)] : List (Str × V)) ++ ([("boughs", V.ref l0)] : List (Str × V)))) (show ∀ g ∈ (["form", "boughs"] : List Str), ¬ g = "parents" by decide +kernel)]
  revert I2
  generalize upd (upd H1 l1 (.lst [])) a (.ins C dx ((([("form", v)] : List (Str × V)) ++ ([("boughs", V.ref l0)] : List (Str × V))) ++ ([("parents", V.ref l1)] : List (Str × V)))) = H2
  intro I2
  refine ⟨(by show 0 ≤ sizeLine; decide), fun l2 hl2 => ?_⟩
  obtain ⟨o2, I3⟩ := I2.step (fs' := (((([("form", v)] : List (Str × V)) ++ ([("boughs", V.ref l0)] : List (Str × V))) ++ ([("parents", V.ref l1)] : List (Str × V))) ++ ([("kids", V.ref l2)] : List (Str × V)))) hl2
  refine ⟨_, rfl, a, C, dx, _, rfl, o2, TC.cl, TC.n2, (by show 3 < 1000; decide), ?_⟩
  rw [putF_new (f := ("kids" : Str)) (v := V.ref l2) (fs := ((([("form", v)] : List (Str × V)) ++ ([("boughs", V.ref l0)] : List (Str × V))) ++ ([("parents", V.ref l1)] : List (Str × V)))) (show ∀ g ∈ (["form", "boughs", "parents"] : List Str), ¬ g = "kids" by decide +kernel)]
  revert I3
  generalize upd (upd H2 l2 (.lst [])) a (.ins C dx (((([("form", v)] : List (Str × V)) ++ ([("boughs", V.ref l0)] : List (Str × V))) ++ ([("parents", V.ref l1)] : List (Str × V))) ++ ([("kids", V.ref l2)] : List (Str × V)))) = H3
  intro I3
  refine ⟨(by show 0 ≤ sizeLine; decide), fun l3 hl3 => ?_⟩
  obtain ⟨o3, I4⟩ := I3.step (fs' := ((((([("form", v)] : List (Str × V)) ++ ([("boughs", V.ref l0)] : List (Str × V))) ++ ([("parents", V.ref l1)] : List (Str × V))) ++ ([("kids", V.ref l2)] : List (Str × V))) ++ ([("depths", V.ref l3)] : List (Str × V)))) hl3
  refine ⟨_, rfl, a, C, dx, _, rfl, o3, TC.cl, TC.n3, (by show 4 < 1000; decide), ?_⟩
  rw [putF_new (f := ("depths" : Str)) (v := V.ref l3) (fs := (((([("form", v)] : List (Str × V)) ++ ([("boughs", V.ref l0)] : List (Str × V))) ++ ([("parents", V.ref l1)] : List (Str × V))) ++ ([("kids", V.ref l2)] : List (Str × V)))) (show ∀ g ∈ (["form", "boughs", "parents", "kids"] : List Str), ¬ g = "depths" by decide +kernel)]
  revert I4
  generalize upd (upd H3 l3 (.lst [])) a (.ins C dx ((((([("form", v)] : List (Str × V)) ++ ([("boughs", V.ref l0)] : List (Str × V))) ++ ([("parents", V.ref l1)] : List (Str × V))) ++ ([("kids", V.ref l2)] : List (Str × V))) ++ ([("depths", V.ref l3)] : List (Str × V)))) = H4
  intro I4
  refine ⟨(by show 0 ≤ sizeLine; decide), fun l4 hl4 => ?_⟩
  obtain ⟨o4, I5⟩ := I4.step (fs' := (((((([("form", v)] : List (Str × V)) ++ ([("boughs", V.ref l0)] : List (Str × V))) ++ ([("parents", V.ref l1)] : List (Str × V))) ++ ([("kids", V.ref l2)] : List (Str × V))) ++ ([("depths", V.ref l3)] : List (Str × V))) ++ ([("sides", V.ref l4)] : List (Str × V)))) hl4
  refine ⟨_, rfl, a, C, dx, _, rfl, o4, TC.cl, TC.n4, (by show 5 < 1000; decide), ?_⟩
  rw [putF_new (f := ("sides" : Str)) (v := V.ref l4) (fs := ((((([("form", v)] : List (Str × V)) ++ ([("boughs", V.ref l0)] : List (Str × V))) ++ ([("parents", V.ref l1)] : List (Str × V))) ++ ([("kids", V.ref l2)] : List (Str × V))) ++ ([("depths", V.ref l3)] : List (Str × V)))) (show ∀ g ∈ (["form", "boughs", "parents", "kids", "depths"] : List Str), ¬ g = "sides" by decide +kernel)]
  revert I5
  generalize upd (upd H4 l4 (.lst [])) a (.ins C dx (((((([("form", v)] : List (Str × V)) ++ ([("boughs", V.ref l0)] : List (Str × V))) ++ ([("parents", V.ref l1)] : List (Str × V))) ++ ([("kids", V.ref l2)] : List (Str × V))) ++ ([("depths", V.ref l3)] : List (Str × V))) ++ ([("sides", V.ref l4)] : List (Str × V)))) = H5
  intro I5
  refine ⟨(by show 0 ≤ sizeLine; decide), fun l5 hl5 => ?_⟩
  obtain ⟨o5, I6⟩ := I5.step (fs' := ((((((([("form", v)] : List (Str × V)) ++ ([("boughs", V.ref l0)] : List (Str × V))) ++ ([("parents", V.ref l1)] : List (Str × V))) ++ ([("kids", V.ref l2)] : List (Str × V))) ++ ([("depths", V.ref l3)] : List (Str × V))) ++ ([("sides", V.ref l4)] : List (Str × V))) ++ ([("lows", V.ref l5)] : List (Str × V)))) hl5
  refine ⟨_, rfl, a, C, dx, _, rfl, o5, TC.cl, TC.n5, (by show 6 < 1000; decide), ?_⟩
  rw [putF_new (f := ("lows" : Str)) (v := V.ref l5) (fs := (((((([("form", v)] : List (Str × V)) ++ ([("boughs", V.ref l0)] : List (Str × V))) ++ ([("parents", V.ref l1)] : List (Str × V))) ++ ([("kids", V.ref l2)] : List (Str × V))) ++ ([("depths", V.ref l3)] : List (Str × V))) ++ ([("sides", V.ref l4)] : List (Str × V)))) (show ∀ g ∈ (["form", "boughs", "parents", "kids", "depths", "sides"] : List Str), ¬ g = "lows" by decide +kernel)]
  revert I6
  generalize upd (upd H5 l5 (.lst [])) a (.ins C dx ((((((([("form", v)] : List (Str × V)) ++ ([("boughs", V.ref l0)] : List (Str × V))) ++ ([("parents", V.ref l1)] : List (Str × V))) ++ ([("kids", V.ref l2)] : List (Str × V))) ++ ([("depths", V.ref l3)] : List (Str × V))) ++ ([("sides", V.ref l4)] : List (Str × V))) ++ ([("lows", V.ref l5)] : List (Str × V)))) = H6
  intro I6
  refine ⟨(by show 0 ≤ sizeLine; decide), fun l6 hl6 => ?_⟩
  obtain ⟨o6, I7⟩ := I6.step (fs' := (((((((([("form", v)] : List (Str × V)) ++ ([("boughs", V.ref l0)] : List (Str × V))) ++ ([("parents", V.ref l1)] : List (Str × V))) ++ ([("kids", V.ref l2)] : List (Str × V))) ++ ([("depths", V.ref l3)] : List (Str × V))) ++ ([("sides", V.ref l4)] : List (Str × V))) ++ ([("lows", V.ref l5)] : List (Str × V))) ++ ([("highs", V.ref l6)] : List (Str × V)))) hl6
  refine ⟨_, rfl, a, C, dx, _, rfl, o6, TC.cl, TC.n6, (by show 7 < 1000; decide), ?_⟩
  rw [putF_new (f := ("highs" : Str)) (v := V.ref l6) (fs := ((((((([("form", v)] : List (Str × V)) ++ ([("boughs", V.ref l0)] : List (Str × V))) ++ ([("parents", V.ref l1)] : List (Str × V))) ++ ([("kids", V.ref l2)] : List (Str × V))) ++ ([("depths", V.ref l3)] : List (Str × V))) ++ ([("sides", V.ref l4)] : List (Str × V))) ++ ([("lows", V.ref l5)] : List (Str × V)))) (show ∀ g ∈ (["form", "boughs", "parents", "kids", "depths", "sides", "lows"] : List Str), ¬ g = "highs" by decide +kernel)]
  revert I7
  generalize upd (upd H6 l6 (.lst [])) a (.ins C dx (((((((([("form", v)] : List (Str × V)) ++ ([("boughs", V.ref l0)] : List (Str × V))) ++ ([("parents", V.ref l1)] : List (Str × V))) ++ ([("kids", V.ref l2)] : List (Str × V))) ++ ([("depths", V.ref l3)] : List (Str × V))) ++ ([("sides", V.ref l4)] : List (Str × V))) ++ ([("lows", V.ref l5)] : List (Str × V))) ++ ([("highs", V.ref l6)] : List (Str × V)))) = H7
  intro I7
  refine ⟨(by show 0 ≤ sizeLine; decide), fun l7 hl7 => ?_⟩
  obtain ⟨o7, I8⟩ := I7.step (fs' := ((((((((([("form", v)] : List (Str × V)) ++ ([("boughs", V.ref l0)] : List (Str × V))) ++ ([("parents", V.ref l1)] : List (Str × V))) ++ ([("kids", V.ref l2)] : List (Str × V))) ++ ([("depths", V.ref l3)] : List (Str × V))) ++ ([("sides", V.ref l4)] : List (Str × V))) ++ ([("lows", V.ref l5)] : List (Str × V))) ++ ([("highs", V.ref l6)] : List (Str × V))) ++ ([("ends", V.ref l7)] : List (Str × V)))) hl7
  refine ⟨_, rfl, a, C, dx, _, rfl, o7, TC.cl, TC.n7, (by show 8 < 1000; decide), ?_⟩
  rw [putF_new (f := ("ends" : Str)) (v := V.ref l7) (fs := (((((((([("form", v)] : List (Str × V)) ++ ([("boughs", V.ref l0)] : List (Str × V))) ++ ([("parents", V.ref l1)] : List (Str × V))) ++ ([("kids", V.ref l2)] : List (Str × V))) ++ ([("depths", V.ref l3)] : List (Str × V))) ++ ([("sides", V.ref l4)] : List (Str × V))) ++ ([("lows", V.ref l5)] : List (Str × V))) ++ ([("highs", V.ref l6)] : List (Str × V)))) (show ∀ g ∈ (["form", "boughs", "parents", "kids", "depths", "sides", "lows", "highs"] : List Str), ¬ g = "ends" by decide +kernel)]
  revert I8
  generalize upd (upd H7 l7 (.lst [])) a (.ins C dx ((((((((([("form", v)] : List (Str × V)) ++ ([("boughs", V.ref l0)] : List (Str × V))) ++ ([("parents", V.ref l1)] : List (Str × V))) ++ ([("kids", V.ref l2)] : List (Str × V))) ++ ([("depths", V.ref l3)] : List (Str × V))) ++ ([("sides", V.ref l4)] : List (Str × V))) ++ ([("lows", V.ref l5)] : List (Str × V))) ++ ([("highs", V.ref l6)] : List (Str × V))) ++ ([("ends", V.ref l7)] : List (Str × V)))) = H8
  intro I8
  refine ⟨(by show 0 ≤ sizeLine; decide), fun l8 hl8 => ?_⟩
  obtain ⟨o8, I9⟩ := I8.step (fs' := (((((((((([("form", v)] : List (Str × V)) ++ ([("boughs", V.ref l0)] : List (Str × V))) ++ ([("parents", V.ref l1)] : List (Str × V))) ++ ([("kids", V.ref l2)] : List (Str × V))) ++ ([("depths", V.ref l3)] : List (Str × V))) ++ ([("sides", V.ref l4)] : List (Str × V))) ++ ([("lows", V.ref l5)] : List (Str × V))) ++ ([("highs", V.ref l6)] : List (Str × V))) ++ ([("ends", V.ref l7)] : List (Str × V))) ++ ([("leaves", V.ref l8)] : List (Str × V)))) hl8
  refine ⟨_, rfl, a, C, dx, _, rfl, o8, TC.cl, TC.n8, (by show 9 < 1000; decide), ?_⟩
  rw [putF_new (f := ("leaves" : Str)) (v := V.ref l8) (fs := ((((((((([("form", v)] : List (Str × V)) ++ ([("boughs", V.ref l0)] : List (Str × V))) ++ ([("parents", V.ref l1)] : List (Str × V))) ++ ([("kids", V.ref l2)] : List (Str × V))) ++ ([("depths", V.ref l3)] : List (Str × V))) ++ ([("sides", V.ref l4)] : List (Str × V))) ++ ([("lows", V.ref l5)] : List (Str × V))) ++ ([("highs", V.ref l6)] : List (Str × V))) ++ ([("ends", V.ref l7)] : List (Str × V)))) (show ∀ g ∈ (["form", "boughs", "parents", "kids", "depths", "sides", "lows", "highs", "ends"] : List Str), ¬ g = "leaves" by decide +kernel)]
  revert I9
  generalize upd (upd H8 l8 (.lst [])) a (.ins C dx (((((((((([("form", v)] : List (Str × V)) ++ ([("boughs", V.ref l0)] : List (Str × V))) ++ ([("parents", V.ref l1)] : List (Str × V))) ++ ([("kids", V.ref l2)] : List (Str × V))) ++ ([("depths", V.ref l3)] : List (Str × V))) ++ ([("sides", V.ref l4)] : List (Str × V))) ++ ([("lows", V.ref l5)] : List (Str × V))) ++ ([("highs", V.ref l6)] : List (Str × V))) ++ ([("ends", V.ref l7)] : List (Str × V))) ++ ([("leaves", V.ref l8)] : List (Str × V)))) = H9
  intro I9
  refine ⟨(by show 0 ≤ sizeLine; decide), fun l9 hl9 => ?_⟩
  obtain ⟨o9, I10⟩ := I9.step (fs' := ((((((((((([("form", v)] : List (Str × V)) ++ ([("boughs", V.ref l0)] : List (Str × V))) ++ ([("parents", V.ref l1)] : List (Str × V))) ++ ([("kids", V.ref l2)] : List (Str × V))) ++ ([("depths", V.ref l3)] : List (Str × V))) ++ ([("sides", V.ref l4)] : List (Str × V))) ++ ([("lows", V.ref l5)] : List (Str × V))) ++ ([("highs", V.ref l6)] : List (Str × V))) ++ ([("ends", V.ref l7)] : List (Str × V))) ++ ([("leaves", V.ref l8)] : List (Str × V))) ++ ([("paths", V.ref l9)] : List (Str × V)))) hl9
  refine ⟨_, rfl, a, C, dx, _, rfl, o9, TC.cl, TC.n9, (by show 10 < 1000; decide), ?_⟩
  rw [putF_new (f := ("paths" : Str)) (v := V.ref l9) (fs := (((((((((([("form", v)] : List (Str × V)) ++ ([("boughs", V.ref l0)] : List (Str × V))) ++ ([("parents", V.ref l1)] : List (Str × V))) ++ ([("kids", V.ref l2)] : List (Str × V))) ++ ([("depths", V.ref l3)] : List (Str × V))) ++ ([("sides", V.ref l4)] : List (Str × V))) ++ ([("lows", V.ref l5)] : List (Str × V))) ++ ([("highs", V.ref l6)] : List (Str × V))) ++ ([("ends", V.ref l7)] : List (Str × V))) ++ ([("leaves", V.ref l8)] : List (Str × V)))) (show ∀ g ∈ (["form", "boughs", "parents", "kids", "depths", "sides", "lows", "highs", "ends", "leaves"] : List Str), ¬ g = "paths" by decide +kernel)]
  revert I10
  generalize upd (upd H9 l9 (.lst [])) a (.ins C dx ((((((((((([("form", v)] : List (Str × V)) ++ ([("boughs", V.ref l0)] : List (Str × V))) ++ ([("parents", V.ref l1)] : List (Str × V))) ++ ([("kids", V.ref l2)] : List (Str × V))) ++ ([("depths", V.ref l3)] : List (Str × V))) ++ ([("sides", V.ref l4)] : List (Str × V))) ++ ([("lows", V.ref l5)] : List (Str × V))) ++ ([("highs", V.ref l6)] : List (Str × V))) ++ ([("ends", V.ref l7)] : List (Str × V))) ++ ([("leaves", V.ref l8)] : List (Str × V))) ++ ([("paths", V.ref l9)] : List (Str × V)))) = H10
  intro I10
  have ob : H10 a = some (.ins C dx (stF v (fun i => [l0, l1, l2, l3, l4, l5, l6, l7, l8, l9].getD i 0))) := I10.ob
  have TA : TreeAt C H10 a dx v (fun i => [l0, l1, l2, l3, l4, l5, l6, l7, l8, l9].getD i 0) (fun _ => []) := ⟨ob, fun i hi => I10.em _ (by
      rw [getD_at _ _ (show i < [l0, l1, l2, l3, l4, l5, l6, l7, l8, l9].length from hi)]
      exact List.getElem_mem _), fun i j hi hj e => by
      have e' : [l0, l1, l2, l3, l4, l5, l6, l7, l8, l9].getD i 0 = [l0, l1, l2, l3, l4, l5, l6, l7, l8, l9].getD j 0 := e
      rw [getD_at _ _ (show i < [l0, l1, l2, l3, l4, l5, l6, l7, l8, l9].length from hi), getD_at _ _ (show j < [l0, l1, l2, l3, l4, l5, l6, l7, l8, l9].length from hj)] at e'
      exact (List.getElem_inj (show [l0, l1, l2, l3, l4, l5, l6, l7, l8, l9].Nodup from I10.nd)).mp e'⟩
  have fr : ∀ i, i < 10 → H ([l0, l1, l2, l3, l4, l5, l6, l7, l8, l9].getD i 0) = none := fun i hi => I10.fr _ (by
      rw [getD_at _ _ (show i < [l0, l1, l2, l3, l4, l5, l6, l7, l8, l9].length from hi)]
      exact List.getElem_mem _)
  revert TA fr
  generalize hL : (fun i => [l0, l1, l2, l3, l4, l5, l6, l7, l8, l9].getD i 0) = L
  intro TA fr
  have fr' : ∀ i, i < 10 → H (L i) = none := fun i hi => by rw [← hL]; exact fr i hi
  obtain ⟨b', bs, rfl, hb, hS⟩ := hv.good g
  have kt : KeepT H H10 := fun y xs => ⟨fun e => I10.kp y _ e (fun z => by rw [z, ho] at e; exact HO.noConfusion (Option.some.inj e)), fun o e => I10.kp y _ e (fun z => by rw [z, ho] at e; exact HO.noConfusion (Option.some.inj e))⟩
  refine ⟨_, rfl, a, dx, _, rfl, TA.ob, stF_grow _ _, _, rfl, (by show 0 ≤ sizeLine; decide), fun t1 ht1 => ?_⟩
  have s1 : Same H10 (upd H10 t1 (.tup [])) := same_new ht1
  refine ⟨_, rfl, a, b', t1, dx, bs, t, t, [], .ref b', L, fun _ => [], rfl, TA.same s1, same_sqt s1 (kt_sqt kt hb), (hS.keep kt).keep (KeepT.of_same s1), SqT.of upd_same, sub_nil t, q1b, q1a, (by decide), fun i _ => ?_, fun H' S' TA' K' G' => q1c H' L S' TA' (fun y o e hy => ?_) (fun i hi => ?_) fr'⟩
  · unfold start
    rw [idx_nil, low_nil]
    split <;> rfl
  · refine K' y o (s1 _ _ (I10.kp y o e hy)) fun i hi z => ?_
    rw [z, fr' i hi] at e
    exact nomatch e
  · obtain ⟨R, eR, pR⟩ := G' i hi
    rw [eR]
    have e : (aof i t).map (([] : Ad) ++ ·) = aof i t := by simp
    rw [← e]
    exact pR
end
end K65
set_option Elab.async false
set_option linter.all false
set_option maxRecDepth 100000
set_option maxHeartbeats 4000000
namespace K65
open PySem PySem.Spec PyProof.Rows L2 Dt
/-! ### data of any kind -/
def kindOf : PyData → String
  | .none => "NoneType" | .bool _ => "bool" | .int _ => "int" | .str _ => "str" | .tuple _ => "tuple" | _ => "list"
theorem kind_dp {K : PySem.W.Frag} {H : Hp} {v : V} {d : PyData} (h : Dp K H v d) : KindV K H v (kindOf d) := by
  cases h with
  | non => exact kind_non
  | bl b => exact kind_bl b
  | int i => exact kind_int i
  | str s => exact kind_str s
  | lst h _ =>
    refine ⟨?_, by simp [kindOf]⟩
    rcases h with (h | ⟨o, h⟩) | ⟨o, its, n, h1, h2, _⟩
    · exact .base (.lst h)
    · exact .base (.frz h)
    · exact .kList h1 h2
  | tup h _ => exact kind_sqt h
def numOf : PyData → Option Int | .int i => some i | _ => none
theorem num_dp {K : PySem.W.Frag} {H : Hp} {v : V} {d : PyData} (h : Dp K H v d) : NumV K H v (numOf d) := by
  have k := kind_dp h
  cases h with
  | int i => exact rfl
  | non => exact ⟨_, k, by decide⟩
  | bl b => exact ⟨_, k, by simp [kindOf]⟩
  | str s => exact ⟨_, k, by simp [kindOf]⟩
  | lst h _ => exact ⟨_, k, by simp [kindOf]⟩
  | tup h _ => exact ⟨_, k, by simp [kindOf]⟩
theorem dps_at {K : PySem.W.Frag} {H : Hp} : ∀ {vs : List V} {ds : List PyData}, DpAll K H vs ds → ∀ {i : Nat} {v : V}, vs[i]? = some v → ∃ d, ds[i]? = some d ∧ Dp K H v d
  | _, _, .nil, i, d, h => by simp at h
  | _, _, .cons h q, 0, d, e => by
    obtain rfl := Option.some.inj e
    exact ⟨_, rfl, h⟩
  | _, _, .cons h q, i + 1, d, e => dps_at q (i := i) (v := d) (by simpa using e)
theorem dps_len {K : PySem.W.Frag} {H : Hp} : ∀ {vs : List V} {ds : List PyData}, DpAll K H vs ds → vs.length = ds.length
  | _, _, .nil => rfl
  | _, _, .cons h q => congrArg (· + 1) (dps_len q)
mutual
theorem dp_same {K : PySem.W.Frag} {H H' : Hp} (e : Same H H') : ∀ {v : V} {d : PyData}, Dp K H v d → Dp K H' v d
  | _, _, .non => .non
  | _, _, .bl b => .bl b
  | _, _, .int i => .int i
  | _, _, .str z => .str z
  | _, _, .lst h q => .lst (e.seq h) (dps_same e q)
  | _, _, .tup h q => .tup (same_sqt e h) (dps_same e q)
theorem dps_same {K : PySem.W.Frag} {H H' : Hp} (e : Same H H') : ∀ {v : List V} {d : List PyData}, DpAll K H v d → DpAll K H' v d
  | _, _, .nil => .nil
  | _, _, .cons h q => .cons (dp_same e h) (dps_same e q)
end
theorem kind_tup_not {d : PyData} (h : ∀ ds, d ≠ .tuple ds) : (kindOf d == "tuple") = false := by
  cases d with
  | tuple ds => exact absurd rfl (h ds)
  | none => decide
  | bool _ => simp [kindOf]
  | int _ => simp [kindOf]
  | str _ => simp [kindOf]
  | list _ => simp [kindOf]
  | dict _ => simp [kindOf]
/-! ### is_rank -/
def rankB : Int := 1606938044258990275541962092341162602522202993782792835301376
def partB (d : PyData) : Bool := match numOf d with | some i => decide (-rankB < i) && decide (i < rankB) | none => false
def rankOf (d : PyData) : Bool := match d with | .tuple ds => decide (ds.length ≤ 8) && ds.all partB | _ => false
def spRank (K : PySem.W.Frag) : Sp := fun vs H Q _ => ∃ (x : V) (d : PyData), vs = [x] ∧ Dp K H x d ∧ Q (.bl (rankOf d)) H
section
variable {P : Program} {w : World} {K : PySem.W.Frag} {mg : Str → Option Value} {base : Heap}
theorem ok_rank (D : DefAt K mg "is_rank" s_is_rank ["thing"]) (T : Txt K mg) (mk : ∃ t, mg "MOST_INTEGERS" = some (.int 8 t)) (mr : ∃ t, mg "RANK_BOUND" = some (.int rankB t)) (GI : CalX P w K mg base CX0 1 "is_integer" ["thing"] (spInteger K)) : CalX P w K mg base CX0 2 "is_rank" ["thing"] (spRank K) := by
  obtain ⟨tk, mk⟩ := mk
  obtain ⟨tr, mr⟩ := mr
  refine D.ok sc_is_rank (fun vs H Q E h => ?_) (fun f cdv A outer s H vs Q E hr h => ?_)
  · obtain ⟨x, d, rfl, _⟩ := h
    rfl
  obtain ⟨x, d, rfl, hx, q⟩ := h
  refine ⟨_, pss_cons (ps_if (PW.pt (pw_or (pt_not (pt_val (pe_callB call_isi (by rfl) T.isinstance boot_isinstance (pa_cons (pv 0) (pa_cons (pe_bltn (v := .ty "tuple") (by rfl) T.tuple PyProof.Rows.boot_tuple rfl) pa_nil)))))
        (pw_or1 (pt_cmpR op_gt (pe_callB call_len_seq (by rfl) T.len PySem.boot_len (pa_cons (pv 0) pa_nil)) (pe_glob (v := .int 8) (by rfl) mk ⟨_, rfl⟩) (nomark _))))) (pss_one (ps_ret pe_bl)) pss_nil)
    (pss_cons (ps_for PassesOwn.never rfl (pi_tup (pv 0)) (pg_name (i := 1) sc_is_rank.nd rfl (Or.inl rfl))
      (pss_one (ps_if (PW.pt (pw_or (pt_not (pt_val (pe_c0 GI hr (by decide) rfl (pa_cons (pv 1) pa_nil))))
        (pw_or1 (pt_not (pt_chain op_lt op_lt (pe_un un_neg (pe_glob (v := .int rankB) (by rfl) mr ⟨_, rfl⟩)) (pv 1) (pe_glob (v := .int rankB) (by rfl) mr ⟨_, rfl⟩)))))) (pss_one (ps_ret pe_bl)) pss_nil)))
    (pss_one (ps_ret pe_bl))), ?_⟩
  have kx := kind_dp hx
  refine isi_read rfl kx.1 (kit_tup kx.2) ⟨_, rfl, ?_⟩
  by_cases ht : ∃ ds, d = .tuple ds
  · obtain ⟨ds, rfl⟩ := ht
    cases hx with
    | @tup a xs _ hs ha =>
    have hl := dps_len ha
    refine iteF ?_
    refine ⟨_, rfl, a, xs, rfl, .inr hs, _, _, rfl, rfl, _, rfl, ?_⟩
    refine ite2 (fun c => ?_) (fun c => ?_)
    · have c' : (8 : Int) < (xs.length : Int) := of_decide_eq_true c
      have e : rankOf (.tuple ds) = false := by
        show (decide (ds.length ≤ 8) && ds.all partB) = false
        rw [decide_eq_false (by omega)]
        rfl
      rw [e] at q
      exact q
    · have c' : ¬ (8 : Int) < (xs.length : Int) := fun z => c (decide_eq_true z)
      refine ⟨_, rfl, a, rfl, ⟨_, hs⟩, for_tup (K := K) (a := a) (xs := xs) (fun i σ H' => ∃ o1, σ = [some (.ref a), o1] ∧ H' = H ∧ (ds.take i).all partB = true) ⟨none, rfl, rfl, rfl⟩ (fun i σ H' _ ⟨_, _, e, _⟩ => by rw [e]; exact hs) ?_ ?_⟩
      · rintro i y σ H' hi ⟨o1, rfl, rfl, hg⟩
        obtain ⟨e, he, hy⟩ := dps_at ha hi
        have hil := (List.getElem?_eq_some_iff.mp he).1
        have et : ds.take (i + 1) = ds.take i ++ [e] := by rw [List.take_add_one, he]; rfl
        have bad : partB e = false → rankOf (.tuple ds) = false := fun z => by
          show (decide (ds.length ≤ 8) && ds.all partB) = false
          have : ds.all partB = false := List.all_eq_false.mpr ⟨e, List.mem_of_getElem? he, by rw [z]; simp⟩
          rw [this, Bool.and_false]
        have good : partB e = true → (ds.take (i + 1)).all partB = true := fun z => by
          rw [et, List.all_append, hg]
          simp [z]
        refine ⟨_, rfl, y, numOf e, rfl, num_dp hy, ⟨_, rfl, ?_⟩⟩
        cases hn : numOf e with
        | none =>
          refine iteT (iteT ?_)
          rw [bad (by unfold partB; rw [hn])] at q
          exact q
        | some z =>
          refine iteF ?_
          have hyz : y = .int z := by
            have := num_dp hy
            rw [hn] at this
            exact this
          subst hyz
          have ep : partB e = (decide (-rankB < z) && decide (z < rankB)) := by unfold partB; rw [hn]
          refine ⟨_, rfl, _, rfl, _, _, rfl, rfl, _, rfl, ?_⟩
          refine ite2 (fun c1 => ?_) (fun c1 => ?_)
          · have c1' : -rankB < z := of_decide_eq_true c1
            refine ⟨_, _, rfl, rfl, _, rfl, ?_⟩
            by_cases c2 : z < rankB
            · have e2 : (decide (z < rankB)) = true := decide_eq_true c2
              rw [e2]
              refine iteF ?_
              exact ⟨_, rfl, rfl, good (by rw [ep, decide_eq_true c1', e2]; rfl)⟩
            · have e2 : (decide (z < rankB)) = false := decide_eq_false c2
              rw [e2]
              refine iteT ?_
              rw [bad (by rw [ep, e2, Bool.and_false])] at q
              exact q
          · have c1' : ¬ -rankB < z := fun y => c1 (decide_eq_true y)
            refine ⟨_, rfl, ?_⟩
            refine iteT ?_
            rw [bad (by rw [ep, decide_eq_false c1']; rfl)] at q
            exact q
      · rintro σ H' ⟨o1, rfl, rfl, hg⟩
        rw [hl, List.take_length] at hg
        have e : rankOf (.tuple ds) = true := by
          show (decide (ds.length ≤ 8) && ds.all partB) = true
          rw [hg, decide_eq_true (by omega)]
          rfl
        rw [e] at q
        exact q
  · have e : (kindOf d == "tuple") = false := kind_tup_not fun ds z => ht ⟨ds, z⟩
    rw [e]
    refine iteT (iteT ?_)
    have e2 : rankOf d = false := by
      cases d with
      | tuple ds => exact absurd ⟨ds, rfl⟩ ht
      | _ => rfl
    rw [e2] at q
    exact q
end
end K65
set_option Elab.async false
set_option linter.all false
set_option maxRecDepth 100000
set_option maxHeartbeats 4000000
namespace K65
open PySem PySem.Spec PyProof.Rows L2 Dt
/-! ### the order of ranks -/
theorem lexAt_shift (e r : Nat → Bool) (z : Bool) : ∀ k i, Ob.lexAt e r z (i + 1) k = Ob.lexAt (fun j => e (j + 1)) (fun j => r (j + 1)) z i k
  | 0, _ => rfl
  | k + 1, i => by
    rw [Ob.lexAt_succ, Ob.lexAt_succ, lexAt_shift e r z k (i + 1)]
theorem le_lex : ∀ ns ms : List Int, Ob.lexAt (fun j => decide (ns.getD j 0 = ms.getD j 0)) (fun j => decide (ns.getD j 0 ≤ ms.getD j 0)) (decide (ns.length ≤ ms.length)) 0 (min ns.length ms.length) = !HT.lexLt ms ns
  | [], ms => by
    have e : min ([] : List Int).length ms.length = 0 := by simp
    rw [e, Ob.lexAt_zero]
    cases ms with
    | nil => rfl
    | cons y ms => rfl
  | n :: ns, [] => by
    have e : min (n :: ns).length ([] : List Int).length = 0 := by simp
    rw [e, Ob.lexAt_zero]
    show decide ((n :: ns).length ≤ 0) = !(HT.lexLt [] (n :: ns))
    rw [HT.lexLt_nil_cons]
    exact decide_eq_false (by simp)
  | n :: ns, m :: ms => by
    have e : min (n :: ns).length (m :: ms).length = min ns.length ms.length + 1 := by
      rw [List.length_cons, List.length_cons]
      omega
    have ih := le_lex ns ms
    rw [e, Ob.lexAt_succ, HT.lexLt_cons]
    show (if decide (n = m) = true then Ob.lexAt _ _ _ (0 + 1) (min ns.length ms.length) else decide (n ≤ m)) = _
    by_cases h : n = m
    · rw [if_pos (decide_eq_true h), if_pos h.symm, lexAt_shift, ← ih]
      have el : decide ((n :: ns).length ≤ (m :: ms).length) = decide (ns.length ≤ ms.length) := decide_eq_decide.mpr (by rw [List.length_cons, List.length_cons]; omega)
      rw [el]
      rfl
    · rw [if_neg (by rw [decide_eq_false h]; simp), if_neg (Ne.symm h)]
      by_cases h2 : n ≤ m
      · rw [decide_eq_true h2, decide_eq_false (show ¬ m < n by omega)]; rfl
      · rw [decide_eq_false h2, decide_eq_true (show m < n by omega)]; rfl
/-- the numbers of a rank -/
def rkInts : PyData → List Int | .tuple ds => ds.filterMap numOf | _ => []
theorem rank_ints {K : PySem.W.Frag} {H : Hp} : ∀ {xs : List V} {ds : List PyData}, DpAll K H xs ds → ds.all partB = true → xs = (ds.filterMap numOf).map V.int
  | _, _, .nil, _ => rfl
  | _, _, @DpAll.cons _ _ v vs d ds h q, g => by
    rw [List.all_cons, Bool.and_eq_true] at g
    have h2 := rank_ints q g.2
    have g1 := g.1
    unfold partB at g1
    have hn := num_dp h
    cases e : numOf d with
    | none =>
      rw [e] at g1
      exact nomatch g1
    | some i =>
      rw [e] at hn
      have hv : v = .int i := hn
      rw [List.filterMap_cons_some e, List.map_cons, ← h2, hv]
theorem rank_sqt {K : PySem.W.Frag} {H : Hp} {x : V} {d : PyData} (h : Dp K H x d) (g : rankOf d = true) : ∃ a, x = .ref a ∧ SqT K H a ((rkInts d).map V.int) := by
  cases h with
  | @tup a xs ds hs ha =>
    have g' : (decide (ds.length ≤ 8) && ds.all partB) = true := g
    rw [Bool.and_eq_true] at g'
    refine ⟨a, rfl, ?_⟩
    show SqT K H a ((ds.filterMap numOf).map V.int)
    rw [← rank_ints ha g'.2]
    exact hs
  | _ => exact nomatch g
/-! ### is_line -/
def lineGo (last : List Int) : List PyData → Bool
  | [] => true
  | .tuple [rk, _] :: r => rankOf rk && !HT.lexLt (rkInts rk) last && lineGo (rkInts rk) r
  | _ => false
def lineOf : PyData → Bool | .tuple ds => lineGo [] ds | _ => false
def spLine (K : PySem.W.Frag) : Sp := fun vs H Q _ => ∃ (x : V) (d : PyData), vs = [x] ∧ Dp K H x d ∧ ∀ H', Same H H' → Q (.bl (lineOf d)) H'
theorem lineGo_pair (last : List Int) (rk it : PyData) (r : List PyData) : lineGo last (.tuple [rk, it] :: r) = (rankOf rk && !HT.lexLt (rkInts rk) last && lineGo (rkInts rk) r) := by
  rw [lineGo]
theorem lineGo_bad (last : List Int) (e : PyData) (r : List PyData) (h : ∀ rk it, e ≠ .tuple [rk, it]) : lineGo last (e :: r) = false := by
  cases e with
  | tuple ds =>
    match ds, h with
    | [], _ => simp [lineGo]
    | [d1], _ => simp [lineGo]
    | [d1, d2], h => exact absurd rfl (h d1 d2)
    | d1 :: d2 :: d3 :: l, _ => simp [lineGo]
  | _ => simp [lineGo]
section
variable {P : Program} {w : World} {K : PySem.W.Frag} {mg : Str → Option Value} {base : Heap}
end
end K65
set_option Elab.async false
set_option linter.all false
set_option maxRecDepth 100000
set_option maxHeartbeats 4000000
namespace K65
open PySem PySem.Spec PyProof.Rows L2 Dt
/-! ### lines as they stand -/
/-- the rank of an entry, as numbers -/
def enInts : PyData → List Int | .tuple [rk, _] => rkInts rk | _ => []
def rksOf (ds : List PyData) : List (List Int) := ds.map enInts
def IsEn (d : PyData) : Prop := ∃ rk it, d = .tuple [rk, it] ∧ rankOf rk = true
theorem line_facts : ∀ (ds : List PyData) (last : List Int), lineGo last ds = true → (∀ d ∈ ds, IsEn d) ∧ (rksOf ds).Pairwise (fun p q => HT.lexLt q p = false) ∧ ∀ r ∈ rksOf ds, HT.lexLt r last = false
  | [], last, _ => ⟨(fun d h => by simp at h), List.Pairwise.nil, (fun r h => by simp [rksOf] at h)⟩
  | e :: ds, last, g => by
    by_cases he : ∃ rk it, e = .tuple [rk, it]
    · obtain ⟨rk, it, rfl⟩ := he
      rw [lineGo_pair] at g
      simp only [Bool.and_eq_true, Bool.not_eq_true'] at g
      obtain ⟨⟨g1, g2⟩, g3⟩ := g
      obtain ⟨h1, h2, h3⟩ := line_facts ds (rkInts rk) g3
      refine ⟨fun d hd => ?_, ?_, fun r hr => ?_⟩
      · rcases List.mem_cons.mp hd with rfl | hd
        · exact ⟨rk, it, rfl, g1⟩
        · exact h1 d hd
      · exact List.pairwise_cons.mpr ⟨fun r hr => h3 r hr, h2⟩
      · rcases List.mem_cons.mp (show r ∈ rkInts rk :: rksOf ds from hr) with rfl | hr
        · exact g2
        · exact NtL.lex_tr _ _ _ g2 (h3 r hr)
    · rw [lineGo_bad last e ds fun rk it z => he ⟨rk, it, z⟩] at g
      exact nomatch g
/-- p is where r goes: behind all that are not greater -/
structure PlaceIs (rs : List (List Int)) (r : List Int) (p : Nat) : Prop where
  le : p ≤ rs.length
  lo : ∀ i s, i < p → rs[i]? = some s → HT.lexLt r s = false
  hi : ∀ i s, p ≤ i → rs[i]? = some s → HT.lexLt r s = true
def spBehind (K : PySem.W.Frag) : Sp := fun vs H Q _ => ∃ (x y : V) (ds : List PyData) (rk : PyData), vs = [x, y] ∧ Dp K H x (.tuple ds) ∧ Dp K H y rk ∧ lineOf (.tuple ds) = true ∧ rankOf rk = true ∧ ds.length ≤ 1000000 ∧ ∀ p, PlaceIs (rksOf ds) (rkInts rk) p → Q (.int (p : Nat)) H
section
variable {P : Program} {w : World} {K : PySem.W.Frag} {mg : Str → Option Value} {base : Heap}
theorem ok_behind (D : DefAt K mg "place_behind" s_place_behind ["line", "rank"]) (T : Txt K mg) : CalX P w K mg base CX0 1 "place_behind" ["line", "rank"] (spBehind K) := by
  refine D.ok sc_place_behind (fun vs H Q E h => ?_) (fun f cdv A outer s H vs Q E hr h => ?_)
  · obtain ⟨x, y, ds, rk, rfl, _⟩ := h
    rfl
  obtain ⟨x, y, ds, rk, rfl, hx, hy, hline, hrk, hn, q⟩ := h
  obtain ⟨hen, hpw, _⟩ := line_facts ds [] hline
  obtain ⟨rb, rfl, hrb⟩ := rank_sqt hy hrk
  cases hx with
  | @tup a xs _ hs ha =>
  have hl := dps_len ha
  have hlr : (rksOf ds).length = ds.length := by simp [rksOf]
  refine ⟨_, pss_cons (ps_set (i := 2) sc_place_behind.nd rfl (.inl rfl) pe_int)
    (pss_cons (ps_set (i := 3) sc_place_behind.nd rfl (.inl rfl) (pe_callB call_len_seq (by rfl) T.len PySem.boot_len (pa_cons (pv 0) pa_nil)))
    (pss_cons (ps_while PassesOwn.never (pt_cmpR op_lt (pv 2) (pv 3) (nomark _))
      (pss_cons (ps_set (i := 4) sc_place_behind.nd rfl (.inl rfl) (pe_op op_fdiv (pe_op op_add (pv 2) (pv 3)) pe_int))
      (pss_one (ps_if (pt_cmpR (op_leT hr.units0) (pe_ix ix_tup (pe_ix ix_tup (pv 0) (pv 4) (fun _ _ => rfl)) pe_int (fun _ _ => rfl)) (pv 1) (nomark _))
        (pss_one (ps_set (i := 2) sc_place_behind.nd rfl (.inl rfl) (pe_op op_add (pv 4) pe_int)))
        (pss_one (ps_set (i := 3) sc_place_behind.nd rfl (.inl rfl) (pv 4)))))))
    (pss_one (ps_ret (pv 2))))), ?_⟩
  refine ⟨_, rfl, a, xs, rfl, .inr hs, ?_⟩
  rw [hl]
  refine ⟨fun m σ H' => ∃ (lo hi : Nat) (o4 : Option V), σ = [some (.ref a), some (.ref rb), some (.int (lo : Nat)), some (.int (hi : Nat)), o4] ∧ H' = H ∧ m = hi - lo ∧ lo ≤ hi ∧ hi ≤ ds.length ∧
    (∀ i s, i < lo → (rksOf ds)[i]? = some s → HT.lexLt (rkInts rk) s = false) ∧ (∀ i s, hi ≤ i → (rksOf ds)[i]? = some s → HT.lexLt (rkInts rk) s = true),
    ⟨ds.length, 0, ds.length, none, rfl, rfl, rfl, Nat.zero_le _, Nat.le_refl _, (fun i s h => absurd h (Nat.not_lt_zero _)), fun i s h e => absurd (List.getElem?_eq_some_iff.mp e).1 (by omega)⟩, ?_⟩
  rintro m σ H' ⟨lo, hi, o4, rfl, rfl, rfl, h1, h2, h3, h4⟩
  refine ⟨_, rfl, _, rfl, _, _, rfl, rfl, _, rfl, ?_⟩
  refine ite2 (fun c => ?_) (fun c => ?_)
  · have c' : ((lo : Nat) : Int) < (hi : Nat) := of_decide_eq_true c
    refine ⟨_, fun _ _ z => z, ?_⟩
    refine ⟨_, rfl, _, rfl, _, _, rfl, rfl, _, _, rfl, rfl, ⟨by decide, by decide⟩, ?_⟩
    have em : (((lo : Nat) : Int) + (hi : Nat)) / 2 = (((lo + hi) / 2 : Nat) : Int) := by omega
    have em2 : V.int ((((lo : Nat) : Int) + (hi : Nat)) / 2) = V.int (((lo + hi) / 2 : Nat) : Int) := by rw [em]
    rw [show ((fun i j => V.int (i / j)) (((lo : Nat) : Int) + (hi : Nat)) 2) = V.int (((lo + hi) / 2 : Nat) : Int) from em2]
    have hmid : (lo + hi) / 2 < ds.length := by omega
    generalize hme : (lo + hi) / 2 = mid at hmid
    have hxm : mid < xs.length := by omega
    obtain ⟨e, he, hxe⟩ := dps_at ha (List.getElem?_eq_getElem hxm)
    obtain ⟨rk', it, rfl, hrk'⟩ := hen e (List.mem_of_getElem? he)
    have hrs : (rksOf ds)[mid]? = some (rkInts rk') := by
      unfold rksOf
      rw [List.getElem?_map, he]
      rfl
    generalize hxv : xs[mid] = xv at hxe
    cases hxe with
    | @tup b ys _ hsb hab =>
    cases hab with
    | @cons v1 vr d1 dr g1 gr =>
    obtain ⟨ra, rfl, hra⟩ := rank_sqt g1 hrk'
    have hxat : xs[mid]? = some (.ref b) := by rw [List.getElem?_eq_getElem hxm, hxv]
    refine ⟨_, rfl, _, rfl, a, xs, _, _, rfl, rfl, hs, atI_nat hxat, b, (V.ref ra :: vr), 0, V.ref ra, rfl, rfl, hsb, (show atI (V.ref ra :: vr) ((0 : Nat) : Int) = some (V.ref ra) from atI_nat rfl), _, rfl, ra, rb, rkInts rk', rkInts rk, rfl, rfl, hra, hrb, _, rfl, ?_⟩
    rw [le_lex]
    have mono : ∀ i s j t, i < j → (rksOf ds)[i]? = some s → (rksOf ds)[j]? = some t → HT.lexLt t s = false := fun i s j t hij e1 e2 => by
      obtain ⟨l1, e1'⟩ := List.getElem?_eq_some_iff.mp e1
      obtain ⟨l2, e2'⟩ := List.getElem?_eq_some_iff.mp e2
      rw [← e1', ← e2']
      exact List.pairwise_iff_getElem.mp hpw i j l1 l2 hij
    cases hc : HT.lexLt (rkInts rk) (rkInts rk') with
    | false =>
      refine iteT ?_
      refine ⟨_, rfl, _, _, rfl, rfl, ?_⟩
      refine ⟨hi - (mid + 1), by omega, mid + 1, hi, _, rfl, rfl, rfl, by omega, h2, fun i s hi2 e1 => ?_, h4⟩
      by_cases z : i = mid
      · subst z
        rw [hrs] at e1
        rw [← Option.some.inj e1]
        exact hc
      · exact NtL.lex_tr _ _ _ (mono i s mid _ (by omega) e1 hrs) hc
    | true =>
      refine iteF ?_
      refine ⟨_, rfl, ?_⟩
      refine ⟨mid - lo, by omega, lo, mid, _, rfl, rfl, rfl, by omega, by omega, h3, fun i s hi2 e1 => ?_⟩
      by_cases z : i = mid
      · subst z
        rw [hrs] at e1
        rw [← Option.some.inj e1]
        exact hc
      · cases hq : HT.lexLt (rkInts rk) s with
        | true => rfl
        | false =>
          have z2 : HT.lexLt (rkInts rk) (rkInts rk') = false := NtL.lex_tr (rkInts rk') s (rkInts rk) (mono mid _ i s (by omega) hrs e1) hq
          rw [hc] at z2
          exact nomatch z2
  · have c' : ¬ ((lo : Nat) : Int) < (hi : Nat) := fun z => c (decide_eq_true z)
    have e : lo = hi := by omega
    subst e
    exact ⟨_, rfl, q lo ⟨by omega, h3, h4⟩⟩
end
end K65
set_option Elab.async false
set_option linter.all false
set_option maxRecDepth 100000
set_option maxHeartbeats 4000000
namespace K65
open PySem PySem.Spec PyProof.Rows L2 Dt
/-! ### copied -/
/-- lists, tuples and atoms, nested less than n deep, of at most 1000 parts each -/
def plainN : Nat → PyData → Prop
  | 0, _ => False
  | _ + 1, .none => True
  | _ + 1, .bool _ => True
  | _ + 1, .int _ => True
  | _ + 1, .str _ => True
  | n + 1, .tuple ds => ds.length ≤ 1000 ∧ ∀ d ∈ ds, plainN n d
  | n + 1, .list ds => ds.length ≤ 1000 ∧ ∀ d ∈ ds, plainN n d
  | _, _ => False
theorem dps_snoc {K : PySem.W.Frag} {H : Hp} : ∀ {vs : List V} {ds : List PyData} {v : V} {d : PyData}, DpAll K H vs ds → Dp K H v d → DpAll K H (vs ++ [v]) (ds ++ [d])
  | _, _, _, _, .nil, h => .cons h .nil
  | _, _, _, _, .cons r t, h => .cons r (dps_snoc t h)
mutual
theorem dp_off {K : PySem.W.Frag} {H : Hp} {l : Addr} (hl : H l = none) {H' : Hp} (e : Same H H') (u : HO) : ∀ {v : V} {d : PyData}, Dp K H v d → Dp K (upd H' l u) v d
  | _, _, .non => .non
  | _, _, .bl b => .bl b
  | _, _, .int i => .int i
  | _, _, .str z => .str z
  | _, _, .lst h q => .lst ((same_mut e hl).seq h) (dps_off hl e u q)
  | _, _, .tup h q => .tup (same_sqt (same_mut e hl) h) (dps_off hl e u q)
theorem dps_off {K : PySem.W.Frag} {H : Hp} {l : Addr} (hl : H l = none) {H' : Hp} (e : Same H H') (u : HO) : ∀ {v : List V} {d : List PyData}, DpAll K H v d → DpAll K (upd H' l u) v d
  | _, _, .nil => .nil
  | _, _, .cons h q => .cons (dp_off hl e u h) (dps_off hl e u q)
end
/-- y's data rests on objects alone that are not in H -/
def DpF (K : PySem.W.Frag) (H H' : Hp) (y : V) (d : PyData) : Prop := ∀ H2, (∀ b u, H b = none → H' b = some u → H2 b = some u) → Dp K H2 y d
theorem DpF.dp {K : PySem.W.Frag} {H H' : Hp} {y : V} {d : PyData} (h : DpF K H H' y d) : Dp K H' y d := h H' fun _ _ _ e => e
def spCopied (K : PySem.W.Frag) (n : Nat) : Sp := fun vs H Q _ => ∃ (x : V) (d : PyData), vs = [x] ∧ Dp K H x d ∧ plainN n d ∧ ∀ H' y, Same H H' → DpF K H H' y d → Q y H'
theorem kit_list {t : String} (h : t = "int" ∨ t = "bool" ∨ t = "NoneType" ∨ t = "str" ∨ t = "tuple" ∨ t = "list") : kitB t "list" = some (t == "list") := by
  rcases h with rfl | rfl | rfl | rfl | rfl | rfl <;> decide +kernel
/-- the copies of the first parts, made while D holds them -/
def Made (K : PySem.W.Frag) (H H' : Hp) (D : Addr) (acc : List V) (ds : List PyData) : Prop := ∀ H2, (∀ b u, H b = none → b ≠ D → H' b = some u → H2 b = some u) → DpAll K H2 acc ds
section
variable {P : Program} {w : World} {K : PySem.W.Frag} {mg : Str → Option Value} {base : Heap}
theorem Made.step {H H1 H2 : Hp} {D : Addr} {acc : List V} {ds : List PyData} {y : V} {d : PyData} (s : Same H H1) (hD : H1 D = some (.lst acc)) (s2 : Same H1 H2) (m : Made K H H1 D acc ds) (f : DpF K H1 H2 y d) : Made K H (upd H2 D (.lst (acc ++ [y]))) D (acc ++ [y]) (ds ++ [d]) := by
  intro H3 hk
  refine dps_snoc (m H3 fun b u h1 h2 h3 => hk b u h1 h2 ?_) (f H3 fun b u h1 h2 => ?_)
  · rw [upd_ne h2]
    exact s2 _ _ h3
  · have hb : b ≠ D := fun z => by rw [z, hD] at h1; exact nomatch h1
    exact hk b u (s.free h1) hb (by rw [upd_ne hb]; exact h2)
end
/-! ### put_place -/
def Out (U : Addr) (z : Str) (H : Hp) (E : XK) : Prop := ∀ d, H d = none → E (.ref U) (some d) (upd H d (xdO z (-1)))
def spPutPlace (K : PySem.W.Frag) (U : Addr) : Sp := fun vs H Q E => ∃ (x y : V) (d r : PyData), vs = [x, y] ∧ Dp K H x d ∧ Dp K H y r ∧ (∀ ds, d = .tuple ds → ds.length ≤ 1000000) ∧
  (lineOf d = false → ∀ H', Same H H' → Out U "line" H' E) ∧ (lineOf d = true → rankOf r = false → ∀ H', Same H H' → Out U "rank" H' E) ∧
  (∀ ds p H', d = .tuple ds → lineOf d = true → rankOf r = true → PlaceIs (rksOf ds) (rkInts r) p → Same H H' → Q (.int (p : Nat)) H')
end K65
set_option Elab.async false
set_option linter.all false
set_option maxRecDepth 100000
set_option maxHeartbeats 4000000
namespace K65
open PySem PySem.Spec PyProof.Rows L2 Dt
/-! ### a made tree -/
def Tree (K : PySem.W.Frag) (H : Hp) (C a : Addr) (T : Dt) : Prop := ∃ dx fv L S, TreeAt C H a dx fv L S ∧ Full K H T S ∧ ShV K H fv T ∧ T.nodes ≤ 1000
theorem Tree.same {K : PySem.W.Frag} {H H' : Hp} {C a : Addr} {T : Dt} (t : Tree K H C a T) (e : Same H H') : Tree K H' C a T := by
  obtain ⟨dx, fv, L, S, h1, h2, h3, h4⟩ := t
  exact ⟨dx, fv, L, S, h1.same e, fun i hi => Paired.mono (fun v q c => Cell.keep (KeepT.of_same e) i v q c) (h2 i hi), h3.keep (KeepT.of_same e), h4⟩
/-- the same, with lists that are new to H0 -/
def TN (K : PySem.W.Frag) (H0 H : Hp) (C a : Addr) (T : Dt) : Prop := ∃ dx fv L S, TreeAt C H a dx fv L S ∧ Full K H T S ∧ ShV K H fv T ∧ T.nodes ≤ 1000 ∧ ∀ i, i < 10 → H0 (L i) = none
theorem TN.same {K : PySem.W.Frag} {H0 H H' : Hp} {C a : Addr} {T : Dt} (t : TN K H0 H C a T) (e : Same H H') : TN K H0 H' C a T := by
  obtain ⟨dx, fv, L, S, h1, h2, h3, h4, h5⟩ := t
  exact ⟨dx, fv, L, S, h1.same e, fun i hi => Paired.mono (fun v q c => Cell.keep (KeepT.of_same e) i v q c) (h2 i hi), h3.keep (KeepT.of_same e), h4, h5⟩
theorem TN.from {K : PySem.W.Frag} {H0 H1 H : Hp} {C a : Addr} {T : Dt} (t : TN K H0 H C a T) (e : ∀ y, H0 y = none → H1 y = none) : TN K H1 H C a T := by
  obtain ⟨dx, fv, L, S, h1, h2, h3, h4, h5⟩ := t
  exact ⟨dx, fv, L, S, h1, h2, h3, h4, fun i hi => e _ (h5 i hi)⟩
theorem Paired.at {α β : Type} {F : α → β → Prop} : ∀ {l : List α} {m : List β}, Paired F l m → ∀ {i : Nat} {b : β}, m[i]? = some b → ∃ a, l[i]? = some a ∧ F a b
  | _, _, .nil, i, b, h => by simp at h
  | _, _, .cons r t, 0, b, h => by
    obtain rfl := Option.some.inj h
    exact ⟨_, rfl, r⟩
  | _, _, .cons r t, i + 1, b, h => Paired.at t (i := i) (b := b) (by simpa using h)
theorem idx_at {T : Dt} {p : Ad} (h : p ∈ ad T) : (ad T)[T.idx p]? = some p := by
  obtain ⟨u, hu⟩ := ad_sub h
  exact ad_at hu
theorem Full.node {K : PySem.W.Frag} {H : Hp} {T : Dt} {S : Nat → List V} (f : Full K H T S) {k : Nat} (hk : k < 8) {p : Ad} (hp : p ∈ ad T) : ∃ v, atI (S k) (T.idx p : Nat) = some v ∧ Cell K H T k v p := by
  have h := f k (by omega)
  unfold aof at h
  rw [if_pos hk] at h
  obtain ⟨v, h1, h2⟩ := Paired.at h (idx_at hp)
  exact ⟨v, atI_nat h1, h2⟩
theorem Full.len {K : PySem.W.Frag} {H : Hp} {T : Dt} {S : Nat → List V} (f : Full K H T S) {k : Nat} (hk : k < 8) : (S k).length = T.nodes := by
  have h := f k (by omega)
  unfold aof at h
  rw [if_pos hk] at h
  rw [Paired.len h, ad_len]
theorem Full.lenL {K : PySem.W.Frag} {H : Hp} {T : Dt} {S : Nat → List V} (f : Full K H T S) : (S 8).length = T.lf := by
  have h := f 8 (by omega)
  have : aof 8 = lv := rfl
  rw [this] at h
  exact Paired.len h
/-- a number that is below: an address -/
theorem below_ad {T : Dt} {o : Option Int} (h : belowB (T.nodes : Nat) o = true) : ∃ p, p ∈ ad T ∧ o = some (T.idx p : Nat) := by
  cases o with
  | none => exact nomatch h
  | some i =>
    have h' : (decide (0 ≤ i) && decide (i < (T.nodes : Nat))) = true := h
    rw [Bool.and_eq_true] at h'
    have h1 := of_decide_eq_true h'.1
    have h2 := of_decide_eq_true h'.2
    have h3 : i.toNat < (ad T).length := by rw [ad_len]; omega
    refine ⟨(ad T)[i.toNat], List.getElem_mem h3, ?_⟩
    rw [idx_of (List.getElem?_eq_getElem h3)]
    congr 1
    omega
theorem below_lv {T : Dt} {o : Option Int} (h : belowB (T.lf : Nat) o = true) : ∃ (i : Nat) (p : Ad), (lv T)[i]? = some p ∧ o = some (i : Nat) := by
  cases o with
  | none => exact nomatch h
  | some i =>
    have h' : (decide (0 ≤ i) && decide (i < (T.lf : Nat))) = true := h
    rw [Bool.and_eq_true] at h'
    have h1 := of_decide_eq_true h'.1
    have h2 := of_decide_eq_true h'.2
    have h3 : i.toNat < (lv T).length := by
      show i.toNat < T.lf
      omega
    refine ⟨i.toNat, (lv T)[i.toNat], List.getElem?_eq_getElem h3, ?_⟩
    congr 1
    omega
theorem ad_below {T : Dt} {p : Ad} (h : p ∈ ad T) : belowB (T.nodes : Nat) (some (T.idx p : Nat)) = true := by
  obtain ⟨u, hu⟩ := ad_sub h
  have h1 := idx_lt hu
  have h2 := u.nodes_pos
  show (decide ((0 : Int) ≤ (T.idx p : Nat)) && decide (((T.idx p : Nat) : Int) < (T.nodes : Nat))) = true
  rw [Bool.and_eq_true]
  exact ⟨decide_eq_true (by omega), decide_eq_true (by omega)⟩
section
variable {P : Program} {w : World} {K : PySem.W.Frag} {mg : Str → Option Value} {base : Heap} {C U fG : Addr}
def spNeedNode (K : PySem.W.Frag) (C U : Addr) : Sp := fun vs H Q E => ∃ a x o T z, vs = [.ref a, x, .str z] ∧ Tree K H C a T ∧ NumV K H x o ∧ (belowB (T.nodes : Nat) o = true → Q .non H) ∧ (belowB (T.nodes : Nat) o = false → Out U z H E)
def spNeedQueue (K : PySem.W.Frag) (C U : Addr) : Sp := fun vs H Q E => ∃ a x o T z, vs = [.ref a, x, .str z] ∧ Tree K H C a T ∧ NumV K H x o ∧ (belowB (T.lf : Nat) o = true → Q .non H) ∧ (belowB (T.lf : Nat) o = false → Out U z H E)
theorem ok_need_queue (D : DefAt K mg "need_queue" s_need_queue ["tree", "queue", "word"]) (T : Txt K mg) (TC : TCl K mg C fG) (GB : CalX P w K mg base CX0 3 "is_below" ["thing", "bound"] (spBelow K)) (GN : CalX P w K mg base (L2.CX P w) 3 "need" ["fits", "word"] (spNeed U)) :
    CalX P w K mg base (L2.CX P w) 4 "need_queue" ["tree", "queue", "word"] (spNeedQueue K C U) := by
  refine D.okX sc_need_queue (fun vs H Q E h => ?_) (fun f cdv A outer s H vs Q E hr h => ?_)
  · obtain ⟨a, x, o, t, z, rfl, _⟩ := h
    rfl
  obtain ⟨a, x, o, t, z, rfl, ⟨dx, fv, L, S, hT, hF, hV, h1⟩, hx, q1, q2⟩ := h
  refine ⟨_, pss_one (ps_expr (pe_cx GN hr (by decide) rfl (passes_call (takes_of rfl rfl rfl rfl) (fun _ _ _ _ h => h)) (pa_cons (pe_c0 GB hr (by decide) rfl (pa_cons (pv 1) (pa_cons (pe_callB call_len_seq (by rfl) T.len PySem.boot_len (pa_cons (pe_fld (pv 0) rfl) pa_nil)) pa_nil))) (pa_cons (pv 2) pa_nil)))), ?_⟩
  refine ⟨_, rfl, _, rfl, a, C, dx, _, _, rfl, hT.ob, TC.cl, TC.n8, stF_8 _ _, L 8, _, rfl, .inl (SqL.of (hT.ls 8 (by decide))), ?_⟩
  rw [hF.lenL]
  exact ⟨x, o, _, rfl, hx, _, rfl, _, z, rfl, q1, q2⟩
/-! ### shape_tree -/
def spShapeTree (K : PySem.W.Frag) (C U : Addr) : Sp := fun vs H Q E => ∃ (v : V) (t : Dt) (z : Str), vs = [v, .str z] ∧ DtV K H v t ∧ t.size ≤ 100000 ∧ (t.good 1 = true → t.ht < 20 ∧ t.nodes ≤ 1000 ∧ ∀ a H' (fr : Addr), Same H H' → TN K H H' C a t → H a = none → Tree K H' C a t → Q (.ref a) H') ∧
  (t.good 1 = false → ∀ H', Same H H' → Out U z H' E)
theorem ok_shapeTree {fC : Addr} {fdC : FuncData} (D : DefAt K mg "shape_tree" s_shape_tree ["form", "word"]) (M : Mk K C fC) (gC : mg "ShapeTree" = some (.ref C)) (bC : Binds K fdC ["self", "form"] []) (FC : FnOk P w K mg base (L2.CX P w) 21 fC fdC ["self", "form"] (spInit K C U 20))
    (GNS : CalX P w K mg base (L2.CX P w) 4 "need_shape" ["form", "word"] (spNeedShape K U)) : CalX P w K mg base (L2.CX P w) 23 "shape_tree" ["form", "word"] (spShapeTree K C U) := by
  refine D.okX sc_shape_tree (fun vs H Q E h => ?_) (fun f cdv A outer s H vs Q E hr h => ?_)
  · obtain ⟨v, t, z, rfl, _⟩ := h
    rfl
  obtain ⟨v, t, z, rfl, hv, hz, q1, q2⟩ := h
  refine ⟨_, pss_cons (ps_expr (pe_cx GNS hr (by decide) rfl (passes_call (takes_of rfl rfl rfl rfl) (fun _ _ _ _ h => h)) (pa_cons (pv 0) (pa_cons (pv 1) pa_nil))))
    (pss_one (ps_ret (pe_make M FC (hr.mono (by decide)) rfl gC bC .nil (passes_call (takes_of rfl rfl rfl rfl) (fun _ _ _ _ h => h)) (pa_cons (pv 0) pa_nil)))), ?_⟩
  refine ⟨_, rfl, _, rfl, v, t, z, rfl, hv, hz, fun g H1 s1 => ?_, fun g H1 d s1 hd => q2 g H1 s1 d hd⟩
  obtain ⟨p1, p2, p3⟩ := q1 g
  refine ⟨_, rfl, fun x dx hx hdx hne => ?_⟩
  have sx : Same H1 (upd (upd H1 dx (.own x)) x (.ins C dx [])) := fun y o h => by rw [upd_ne (ne_of_none h hx), upd_ne (ne_of_none h hdx)]; exact h
  refine ⟨x, dx, v, t, rfl, upd_same, same_dtv (s1.trans sx) hv, hz, fun _ => ⟨p1, p2, fun H2 L S TA kp F fr => ⟨rfl, ?_⟩⟩, fun bad => absurd (g.symm.trans bad) (by decide)⟩
  have sm : Same H1 H2 := fun y o h => kp y o (sx y o h) (ne_of_none h hx)
  have hsv : ShV K H2 v t := (same_dtv (s1.trans sm) hv).good g
  exact p3 x H2 x (s1.trans sm) ⟨dx, v, L, S, TA, F, hsv, p2, fun i hi => s1.free (sx.free (fr i hi))⟩ (s1.free hx) ⟨dx, v, L, S, TA, F, hsv, p2⟩
end
end K65
set_option Elab.async false
set_option linter.all false
set_option maxRecDepth 100000
set_option maxHeartbeats 4000000
namespace K65
open PySem PySem.Spec PyProof.Rows L2 Dt
/-! ### fit_path, are_ranks -/
def fitOf (n : Nat) (d : PyData) : Bool := match d with | .tuple ds => decide (ds.length = n) && ds.all rankOf | _ => false
def spFit (K : PySem.W.Frag) (C : Addr) : Sp := fun vs H Q _ => ∃ (a : Addr) (i : Nat) (x : V) (T : Dt) (p : Ad) (d : PyData), vs = [.ref a, .int (i : Nat), x] ∧ Tree K H C a T ∧ (lv T)[i]? = some p ∧ Dp K H x d ∧ (∀ ds, d = .tuple ds → ds.length ≤ 1000000) ∧ ∀ H', Same H H' → Q (.bl (fitOf (p.length + 1) d)) H'
def spAreRanks (K : PySem.W.Frag) (C U : Addr) : Sp := fun vs H Q E => ∃ (v x y : V) (t : Dt) (o : Option Int) (d : PyData), vs = [v, x, y] ∧ DtV K H v t ∧ t.size ≤ 100000 ∧ (t.good 1 = true → t.ht < 20 ∧ t.nodes ≤ 1000) ∧ NumV K H x o ∧ Dp K H y d ∧ (∀ ds, d = .tuple ds → ds.length ≤ 1000000) ∧
  (t.good 1 = false → ∀ H', Same H H' → Out U "form" H' E) ∧ (t.good 1 = true → belowB (t.lf : Nat) o = false → ∀ H', Same H H' → Out U "queue" H' E) ∧
  (t.good 1 = true → ∀ (i : Nat) p H', o = some (i : Nat) → (lv t)[i]? = some p → Same H H' → Q (.bl (fitOf (p.length + 1) d)) H')
theorem numV_same {K : PySem.W.Frag} {H H' : Hp} (e : Same H H') {x : V} {o : Option Int} (h : NumV K H x o) : NumV K H' x o := by
  cases o with
  | some i => exact h
  | none =>
    obtain ⟨t, h1, h2⟩ := h
    exact ⟨t, same_kind e h1, h2⟩
section
variable {P : Program} {w : World} {K : PySem.W.Frag} {mg : Str → Option Value} {base : Heap} {C U fG : Addr}
theorem ok_fit (D : DefAt K mg "fit_path" s_fit_path ["tree", "queue", "thing"]) (T : Txt K mg) (TC : TCl K mg C fG) (GR : CalX P w K mg base CX0 2 "is_rank" ["thing"] (spRank K)) : CalX P w K mg base CX0 3 "fit_path" ["tree", "queue", "thing"] (spFit K C) := by
  refine D.ok sc_fit_path (fun vs H Q E h => ?_) (fun f cdv A outer s H vs Q E hr h => ?_)
  · obtain ⟨a, i, x, t, p, d, rfl, _⟩ := h
    rfl
  obtain ⟨a, i, x, t, p, d, rfl, hTr, hp, hx, hn, q⟩ := h
  refine ⟨_, pss_cons (ps_if (PW.pt (pw_or (pt_not (pt_val (pe_callB call_isi (by rfl) T.isinstance boot_isinstance (pa_cons (pv 2) (pa_cons (pe_bltn (v := .ty "tuple") (by rfl) T.tuple PyProof.Rows.boot_tuple rfl) pa_nil)))))
        (pw_or1 (pt_cmpR op_ne (pe_callB call_len_seq (by rfl) T.len PySem.boot_len (pa_cons (pv 2) pa_nil)) (pe_callB call_len_seq (by rfl) T.len PySem.boot_len (pa_cons (pe_ix ix_list (pe_fld (pv 0) rfl) (pv 1) (fun _ _ => rfl)) pa_nil)) (nomark _))))) (pss_one (ps_ret pe_bl)) pss_nil)
    (pss_one (ps_ret (pe_callB (cr_all rfl) (by rfl) T.all (by decide +kernel) (pa_cons (pe_lc (own := [("rank", 3)]) (g := gName 3) (tt := tYes) (by rfl) sc_fit_path.nd (pi_tup (pv 2))
        (blkOk_by (own := [("rank", 3)]) (N := N_fit_path) (sc := defScope s_fit_path) (by decide +kernel)) (fun _ _ _ _ _ => pg_name (i := 3) sc_fit_path.nd rfl (Or.inl rfl)) (fun _ _ _ _ _ => pts_nil)
        (fun _ _ _ _ _ => by exact (pe_c0 GR hr (by decide) rfl (pa_cons (pv 3) pa_nil)))) pa_nil)))), ?_⟩
  have kx := kind_dp hx
  have sH : Same H H := fun _ _ z => z
  obtain ⟨dx, fv, L, S, hT, hF, hV, h1⟩ := id hTr
  have h9 := hF 9 (by decide)
  obtain ⟨v9, e9, b9, rfl, hb9⟩ := Paired.at h9 (show (aof 9 t)[i]? = some p from hp)
  refine isi_read rfl kx.1 (kit_tup kx.2) ⟨_, rfl, ?_⟩
  by_cases ht : ∃ ds, d = .tuple ds
  · obtain ⟨ds, rfl⟩ := ht
    cases hx with
    | @tup b xs _ hs ha =>
    have hl := dps_len ha
    have hsl := sizeLine_eq
    have hds := hn ds rfl
    refine iteF ?_
    refine ⟨_, rfl, b, xs, rfl, .inr hs, _, rfl, a, C, dx, _, _, rfl, hT.ob, TC.cl, TC.n9, stF_9 _ _, _, rfl, L 9, _, _, _, rfl, rfl, SqL.of (hT.ls 9 (by decide)), atI_nat e9, b9, _, rfl, .inr hb9, rfl, _, rfl, ?_⟩
    have el : (pth t p (p.length + 1)).length = p.length + 1 := by unfold pth; rw [List.length_map, List.length_range]
    rw [el, hl]
    by_cases c : ds.length = p.length + 1
    · rw [c]
      have e0 : (decide (V.int ((p.length + 1 : Nat) : Int) = V.int ((p.length + 1 : Nat) : Int))) = true := decide_eq_true rfl
      rw [e0]
      refine iteF ?_
      refine ⟨_, rfl, b, rfl, ⟨_, hs⟩, fun Dl hDl => lc_tup (K := K) (a := b) (xs := xs) (fun k H' => Same H H' ∧ H' Dl = some (.lst (((ds.take k).map rankOf).map V.bl))) ⟨same_new hDl, upd_same⟩ (fun k H' _ ⟨sm, _⟩ => same_sqt sm hs) ?_ ?_⟩
      · rintro k y H' hk ⟨sm, hD⟩
        obtain ⟨e, he, hy⟩ := dps_at ha hk
        have hkl := (List.getElem?_eq_some_iff.mp he).1
        refine ⟨rfl, _, rfl, y, e, rfl, dp_same sm hy, ?_⟩
        refine ⟨_, hD, ?_, same_mut sm hDl, ?_⟩
        · rw [List.length_map, List.length_map, List.length_take]
          omega
        · rw [upd_same, List.take_add_one, he, List.map_append, List.map_append]
          rfl
      · rintro H' ⟨sm, hD⟩
        rw [hl, List.take_length] at hD
        refine ⟨Dl, _, rfl, SqL.of hD, ?_⟩
        have e1 : fitOf (p.length + 1) (.tuple ds) = (ds.map rankOf).all id := by
          show (decide (ds.length = p.length + 1) && ds.all rankOf) = _
          rw [decide_eq_true c, Bool.true_and, List.all_map]
          rfl
        have := q H' sm
        rw [e1] at this
        exact this
    · have e0 : (decide (V.int (ds.length : Nat) = V.int ((p.length + 1 : Nat) : Int))) = false := decide_eq_false fun z => c (by injection z with z; omega)
      rw [e0]
      refine iteT ?_
      have := q H sH
      rw [show fitOf (p.length + 1) (.tuple ds) = false by show (decide (ds.length = p.length + 1) && ds.all rankOf) = false; rw [decide_eq_false c]; rfl] at this
      exact this
  · have e : (kindOf d == "tuple") = false := kind_tup_not fun ds z => ht ⟨ds, z⟩
    rw [e]
    refine iteT (iteT ?_)
    have e2 : fitOf (p.length + 1) d = false := by
      cases d with
      | tuple ds => exact absurd ⟨ds, rfl⟩ ht
      | _ => rfl
    have := q H sH
    rw [e2] at this
    exact this
end
end K65
set_option Elab.async false
set_option linter.all false
set_option maxRecDepth 100000
set_option maxHeartbeats 8000000
namespace K65
open PySem PySem.Spec PyProof.Rows L2 Dt
/-! ### the class Standing: its fields, its making -/
def packB : Int := 1152921504606846976
def stS (ta la sd : Addr) : List (Str × V) := [("tree", .ref ta), ("lines", .ref la), ("seats", .ref sd)]
structure StCl (K : PySem.W.Frag) (CS : Addr) : Prop where
  cl : Cls K CS
  nT : NoAttr K CS "tree"
  nL : NoAttr K CS "lines"
  nS : NoAttr K CS "seats"
/-- a standing: its tree, one list a node, the queues of its packets -/
structure Stand (K : PySem.W.Frag) (C CS : Addr) (H : Hp) (a dx ta la sd : Addr) (Ls : List Addr) (T : Dt) (xs : Nat → List V) (kv : List (Key × V)) : Prop where
  ob : H a = some (.ins CS dx (stS ta la sd))
  tr : Tree K H C ta T
  ln : H la = some (.lst (Ls.map V.ref))
  len : Ls.length = T.nodes
  li : ∀ i l, Ls[i]? = some l → H l = some (.lst (xs i))
  se : H sd = some (.dK kv)
  nd : (la :: Ls).Nodup
def spStInit (K : PySem.W.Frag) (C CS U : Addr) : Sp := fun vs H Q E => ∃ (a dx : Addr) (v : V) (t : Dt), vs = [.ref a, v] ∧ H a = some (.ins CS dx []) ∧ DtV K H v t ∧ t.size ≤ 100000 ∧
  (t.good 1 = true → t.ht < 20 ∧ t.nodes ≤ 1000 ∧ ∀ H' ta la sd Ls, Stand K C CS H' a dx ta la sd Ls t (fun _ => []) [] → (∀ y o, H y = some o → y ≠ a → H' y = some o) → H ta = none → H la = none → H sd = none → (∀ l ∈ Ls, H l = none) → Q .non H') ∧
  (t.good 1 = false → ∀ H', Same H H' → Out U "form" H' E)
theorem paired_len {α β : Type} {F : α → β → Prop} : ∀ {l : List α} {m : List β}, Paired F l m → l.length = m.length
  | _, _, .nil => rfl
  | _, _, .cons _ t => congrArg (· + 1) (paired_len t)
theorem Tree.put {K : PySem.W.Frag} {H : Hp} {C ta a : Addr} {T : Dt} (t : Tree K H C ta T) (CS dx : Addr) (fs : List (Str × V)) (ha : H a = some (.ins CS dx fs)) (ne : a ≠ ta) (fs' : List (Str × V)) : Tree K (upd H a (.ins CS dx fs')) C ta T := by
  obtain ⟨dx', fv, L, S, h1, h2, h3, h4⟩ := t
  have kt : KeepT H (upd H a (.ins CS dx fs')) := fun y ys => ⟨fun h => by
    rw [upd_ne]
    · exact h
    · intro e
      rw [e, ha] at h
      exact HO.noConfusion (Option.some.inj h), fun o h => by
    rw [upd_ne]
    · exact h
    · intro e
      rw [e, ha] at h
      exact HO.noConfusion (Option.some.inj h)⟩
  refine ⟨dx', fv, L, S, ⟨?_, fun i hi => ?_, h1.inj⟩, fun i hi => Paired.mono (fun v q c => Cell.keep kt i v q c) (h2 i hi), h3.keep kt, h4⟩
  · rw [upd_ne ne.symm]
    exact h1.ob
  · have := h1.ls i hi
    rw [upd_ne]
    · exact this
    · intro e
      rw [e, ha] at this
      exact HO.noConfusion (Option.some.inj this)
end K65
set_option Elab.async false
set_option linter.all false
set_option maxRecDepth 100000
set_option maxHeartbeats 8000000
namespace K65
open PySem PySem.Spec PyProof.Rows L2 Dt
abbrev st1 (ta : Addr) : List (Str × V) := [("tree", .ref ta)]
abbrev st2 (ta la : Addr) : List (Str × V) := [("tree", .ref ta), ("lines", .ref la)]
theorem lst_upd {H : Hp} {a CS dx : Addr} {fs fs' : List (Str × V)} {l : Addr} {xs : List V} (ha : H a = some (.ins CS dx fs)) (h : H l = some (.lst xs)) : (upd H a (.ins CS dx fs')) l = some (.lst xs) := by
  rw [upd_ne]
  · exact h
  · intro e
    rw [e, ha] at h
    exact HO.noConfusion (Option.some.inj h)
section
variable {P : Program} {w : World} {K : PySem.W.Frag} {mg : Str → Option Value} {base : Heap}
theorem ok_stInit {C CS U f fG : Addr} {fd : FuncData} (F : Fun K "__init__" "Standing.__init__" s_Standing_init f fd) (SC : StCl K CS) (TC : TCl K mg C fG)
    (GShapeTree : CalX P w K mg base (L2.CX P w) 23 "shape_tree" ["form", "word"] (spShapeTree K C U)) : FnOk P w K mg base (L2.CX P w) 24 f fd ["self", "form"] (spStInit K C CS U) := by
  refine F.okX sc_Standing_init (fun vs H Q E h => ?_) (fun cdv A outer s H vs Q E hr h => ?_)
  · obtain ⟨a, dx, v, t, rfl, _⟩ := h
    rfl
  obtain ⟨a, dx, v, t, rfl, ho, hv, hz, q1, q2⟩ := h
  refine ⟨_, pss_cons (ps_fld (pv 0) (pe_cx GShapeTree hr (by decide) rfl (passes_call (takes_of rfl rfl rfl rfl) (fun _ _ _ _ h => h)) (pa_cons (pv 1) (pa_cons pe_str pa_nil))) rfl)
    (pss_cons (ps_fld (pv 0) (pe_lc (own := [("_", 2)]) (g := gName 2) (tt := tYes) (by rfl) sc_Standing_init.nd (pi_list (pe_fld (pe_fld (pv 0) rfl) rfl)) (blkOk_by (own := [("_", 2)]) (N := N_Standing_init) (sc := defScope s_Standing_init) (by decide +kernel)) (fun _ _ _ _ _ => pg_name (i := 2) sc_Standing_init.nd rfl (Or.inl rfl)) (fun _ _ _ _ _ => pts_nil) (fun _ _ _ _ _ => by exact (pe_lst pa_nil))) rfl)
    (pss_one (ps_fld (pv 0) pe_dnewK rfl))), ?_⟩
  refine ⟨_, rfl, v, t, "form", rfl, hv, hz, fun g => ?_, fun g H' s => q2 g H' s⟩
  obtain ⟨g1, g2, k⟩ := q1 g
  refine ⟨g1, g2, fun ta H1 _ s1 _ hta hTr => ?_⟩
  have ho1 := s1 _ _ ho
  have nta : a ≠ ta := fun e => by
    rw [e, hta] at ho
    exact nomatch ho
  refine ⟨_, rfl, a, CS, dx, [], rfl, ho1, SC.cl, SC.nT, (by show 0 < 1000; decide), ?_⟩
  have T2 := hTr.put CS dx [] ho1 nta (putF "tree" (.ref ta) [])
  have ob2 : (upd H1 a (.ins CS dx (putF "tree" (.ref ta) []))) a = some (.ins CS dx (st1 ta)) := upd_same
  have kp2 : ∀ y o, H y = some o → y ≠ a → (upd H1 a (.ins CS dx (putF "tree" (.ref ta) []))) y = some o := fun y o h n => by
    rw [upd_ne n]
    exact s1 _ _ h
  revert T2 ob2 kp2
  generalize upd H1 a (.ins CS dx (putF "tree" (.ref ta) [])) = H2
  intro T2 ob2 kp2
  have T2' := T2
  obtain ⟨dx', fv, L, S, h1, h2, h3, h4⟩ := T2'
  have hlen : (S 2).length = t.nodes := by
    rw [Paired.len (h2 2 (by decide))]
    exact ad_len t
  refine ⟨_, rfl, a, CS, dx, _, _, rfl, ob2, SC.cl, SC.nT, rfl, ta, C, dx', _, _, rfl, h1.ob, TC.cl, TC.n2, stF_2 _ _, L 2, rfl, ⟨_, SqL.of (h1.ls 2 (by decide))⟩, fun Dl hDl => ?_⟩
  refine lc_list (K := K) (a := L 2) (xs := S 2) (fun j H' => Same H2 H' ∧ ∃ Ls : List Addr, H' Dl = some (.lst (Ls.map V.ref)) ∧ Ls.length = j ∧ (∀ l ∈ Ls, H' l = some (.lst []) ∧ H2 l = none) ∧ (Dl :: Ls).Nodup) ⟨same_new hDl, [], upd_same, rfl, (fun _ z => nomatch z), by simp⟩ (fun j H' _ hh => SqL.of (hh.1 _ _ (h1.ls 2 (by decide)))) ?_ ?_
  · rintro j x H' hj ⟨sm, Ls, hD, hl, hls, hnd⟩
    have hjl := (List.getElem?_eq_some_iff.mp hj).1
    refine ⟨rfl, (by show 0 ≤ sizeLine; decide), fun p hp => ?_⟩
    have npD : p ≠ Dl := fun e => by
      rw [e, hD] at hp
      exact nomatch hp
    have npL : p ∉ Ls := fun z => by
      rw [(hls p z).1] at hp
      exact nomatch hp
    obtain ⟨nd1, nd2⟩ := List.nodup_cons.mp hnd
    refine ⟨Ls.map V.ref, (same_new hp) _ _ hD, small1000 (by rw [List.length_map]; omega), same_mut (sm.trans (same_new hp)) hDl, Ls ++ [p], by rw [upd_same, List.map_append]; rfl, by rw [List.length_append]; show Ls.length + 1 = j + 1; omega, fun l hl2 => ?_, ?_⟩
    · rcases List.mem_append.mp hl2 with hl2 | hl2
      · obtain ⟨e1, e2⟩ := hls l hl2
        refine ⟨?_, e2⟩
        rw [upd_ne (fun e => nd1 (by rw [← e]; exact hl2))]
        exact (same_new hp) _ _ e1
      · obtain rfl := List.mem_singleton.mp hl2
        refine ⟨?_, sm.free hp⟩
        rw [upd_ne npD]
        exact upd_same
    · refine List.nodup_cons.mpr ⟨fun z => ?_, List.nodup_append.mpr ⟨nd2, by simp, fun x hx y hy e => ?_⟩⟩
      · rcases List.mem_append.mp z with z | z
        · exact nd1 z
        · exact npD (List.mem_singleton.mp z).symm
      · rw [List.mem_singleton.mp hy] at e
        exact npL (e ▸ hx)
  rintro H3 ⟨sm, Ls, hD, hl, hls, hnd⟩
  have ob3 := sm _ _ ob2
  have nDa : Dl ≠ a := fun e => by
    rw [e, ob2] at hDl
    exact nomatch hDl
  refine ⟨_, rfl, a, CS, dx, _, rfl, ob3, SC.cl, SC.nL, (by show 1 < 1000; decide), ?_⟩
  have T4 := (T2.same sm).put CS dx (st1 ta) ob3 nta (st2 ta Dl)
  have e4 : putF "lines" (.ref Dl) (st1 ta) = (st2 ta Dl) := putF_new (show ∀ g ∈ (["tree"] : List Str), ¬ g = "lines" by decide +kernel)
  rw [e4]
  have ob4 : (upd H3 a (.ins CS dx (st2 ta Dl))) a = some (.ins CS dx (st2 ta Dl)) := upd_same
  have hD4 := lst_upd (fs' := (st2 ta Dl)) ob3 hD
  have hls4 : ∀ l ∈ Ls, (upd H3 a (.ins CS dx (st2 ta Dl))) l = some (.lst []) := fun l h => lst_upd ob3 (hls l h).1
  have kp4 : ∀ y o, H y = some o → y ≠ a → (upd H3 a (.ins CS dx (st2 ta Dl))) y = some o := fun y o h n => by
    rw [upd_ne n]
    exact sm _ _ (kp2 y o h n)
  revert T4 ob4 hD4 hls4 kp4
  generalize upd H3 a (.ins CS dx (st2 ta Dl)) = H4
  intro T4 ob4 hD4 hls4 kp4
  refine fun sd hsd => ?_
  have s5 := same_new (o := .dK []) hsd
  have ob5 := s5 _ _ ob4
  refine ⟨_, rfl, a, CS, dx, _, rfl, ob5, SC.cl, SC.nS, (by show 2 < 1000; decide), ?_⟩
  have e6 : putF "seats" (.ref sd) (st2 ta Dl) = stS ta Dl sd := putF_new (show ∀ g ∈ (["tree", "lines"] : List Str), ¬ g = "seats" by decide +kernel)
  rw [e6]
  have nsa : sd ≠ a := fun e => by
    rw [e, ob4] at hsd
    exact nomatch hsd
  have free : ∀ l, H2 l = none → l ≠ a → H l = none := fun l h n => by
    cases e : H l with
    | none => rfl
    | some o =>
      rw [kp2 l o e n] at h
      exact nomatch h
  refine k _ ta Dl sd Ls ⟨upd_same, (T4.same s5).put CS dx _ ob5 nta _, lst_upd ob5 (s5 _ _ hD4), by rw [hl, hlen], fun i l hi => lst_upd ob5 (s5 _ _ (hls4 l (List.mem_of_getElem? hi))), ?_, hnd⟩ (fun y o h n => ?_) hta (free Dl hDl nDa) ?_ (fun l h => free l (hls l h).2 fun e => ?_)
  · rw [upd_ne nsa]
    exact upd_same
  · rw [upd_ne n]
    exact s5 _ _ (kp4 y o h n)
  · cases e : H sd with
    | none => rfl
    | some o =>
      rw [kp4 sd o e nsa] at hsd
      exact nomatch hsd
  · have := (hls l h).2
    rw [e, ob2] at this
    exact nomatch this
end
end K65
set_option Elab.async false
set_option linter.all false
set_option maxRecDepth 100000
set_option maxHeartbeats 4000000
namespace K65
open PySem PySem.Spec PyProof.Rows L2
/-! ### place_behind, for a list -/
def spBehindL (K : PySem.W.Frag) : Sp := fun vs H Q _ => ∃ (a : Addr) (y : V) (xs : List V) (ds : List PyData) (rk : PyData), vs = [.ref a, y] ∧ SqL K H a xs ∧ DpAll K H xs ds ∧ Dp K H y rk ∧ lineOf (.tuple ds) = true ∧ rankOf rk = true ∧ ds.length ≤ 1000000 ∧ ∀ p, PlaceIs (rksOf ds) (rkInts rk) p → Q (.int (p : Nat)) H
section
variable {P : Program} {w : World} {K : PySem.W.Frag} {mg : Str → Option Value} {base : Heap}
theorem ok_behindL (D : DefAt K mg "place_behind" s_place_behind ["line", "rank"]) (T : Txt K mg) : CalX P w K mg base CX0 1 "place_behind" ["line", "rank"] (spBehindL K) := by
  refine D.ok sc_place_behind (fun vs H Q E h => ?_) (fun f cdv A outer s H vs Q E hr h => ?_)
  · obtain ⟨a, y, xs, ds, rk, rfl, _⟩ := h
    rfl
  obtain ⟨a, y, xs, ds, rk, rfl, hs, ha, hy, hline, hrk, hn, q⟩ := h
  obtain ⟨hen, hpw, _⟩ := line_facts ds [] hline
  obtain ⟨rb, rfl, hrb⟩ := rank_sqt hy hrk
  have hl := dps_len ha
  have hlr : (rksOf ds).length = ds.length := by simp [rksOf]
  refine ⟨_, pss_cons (ps_set (i := 2) sc_place_behind.nd rfl (.inl rfl) pe_int)
    (pss_cons (ps_set (i := 3) sc_place_behind.nd rfl (.inl rfl) (pe_callB call_len_seq (by rfl) T.len PySem.boot_len (pa_cons (pv 0) pa_nil)))
    (pss_cons (ps_while PassesOwn.never (pt_cmpR op_lt (pv 2) (pv 3) (nomark _))
      (pss_cons (ps_set (i := 4) sc_place_behind.nd rfl (.inl rfl) (pe_op op_fdiv (pe_op op_add (pv 2) (pv 3)) pe_int))
      (pss_one (ps_if (pt_cmpR (op_leT hr.units0) (pe_ix ix_tup (pe_ix ix_list (pv 0) (pv 4) (fun _ _ => rfl)) pe_int (fun _ _ => rfl)) (pv 1) (nomark _))
        (pss_one (ps_set (i := 2) sc_place_behind.nd rfl (.inl rfl) (pe_op op_add (pv 4) pe_int)))
        (pss_one (ps_set (i := 3) sc_place_behind.nd rfl (.inl rfl) (pv 4)))))))
    (pss_one (ps_ret (pv 2))))), ?_⟩
  refine ⟨_, rfl, a, xs, rfl, .inl hs, ?_⟩
  rw [hl]
  refine ⟨fun m σ H' => ∃ (lo hi : Nat) (o4 : Option V), σ = [some (.ref a), some (.ref rb), some (.int (lo : Nat)), some (.int (hi : Nat)), o4] ∧ H' = H ∧ m = hi - lo ∧ lo ≤ hi ∧ hi ≤ ds.length ∧
    (∀ i s, i < lo → (rksOf ds)[i]? = some s → HT.lexLt (rkInts rk) s = false) ∧ (∀ i s, hi ≤ i → (rksOf ds)[i]? = some s → HT.lexLt (rkInts rk) s = true),
    ⟨ds.length, 0, ds.length, none, rfl, rfl, rfl, Nat.zero_le _, Nat.le_refl _, (fun i s h => absurd h (Nat.not_lt_zero _)), fun i s h e => absurd (List.getElem?_eq_some_iff.mp e).1 (by omega)⟩, ?_⟩
  rintro m σ H' ⟨lo, hi, o4, rfl, rfl, rfl, h1, h2, h3, h4⟩
  refine ⟨_, rfl, _, rfl, _, _, rfl, rfl, _, rfl, ?_⟩
  refine ite2 (fun c => ?_) (fun c => ?_)
  · have c' : ((lo : Nat) : Int) < (hi : Nat) := of_decide_eq_true c
    refine ⟨_, fun _ _ z => z, ?_⟩
    refine ⟨_, rfl, _, rfl, _, _, rfl, rfl, _, _, rfl, rfl, ⟨by decide, by decide⟩, ?_⟩
    have em : (((lo : Nat) : Int) + (hi : Nat)) / 2 = (((lo + hi) / 2 : Nat) : Int) := by omega
    have em2 : V.int ((((lo : Nat) : Int) + (hi : Nat)) / 2) = V.int (((lo + hi) / 2 : Nat) : Int) := by rw [em]
    rw [show ((fun i j => V.int (i / j)) (((lo : Nat) : Int) + (hi : Nat)) 2) = V.int (((lo + hi) / 2 : Nat) : Int) from em2]
    have hmid : (lo + hi) / 2 < ds.length := by omega
    generalize hme : (lo + hi) / 2 = mid at hmid
    have hxm : mid < xs.length := by omega
    obtain ⟨e, he, hxe⟩ := dps_at ha (List.getElem?_eq_getElem hxm)
    obtain ⟨rk', it, rfl, hrk'⟩ := hen e (List.mem_of_getElem? he)
    have hrs : (rksOf ds)[mid]? = some (rkInts rk') := by
      unfold rksOf
      rw [List.getElem?_map, he]
      rfl
    generalize hxv : xs[mid] = xv at hxe
    cases hxe with
    | @tup b ys _ hsb hab =>
    cases hab with
    | @cons v1 vr d1 dr g1 gr =>
    obtain ⟨ra, rfl, hra⟩ := rank_sqt g1 hrk'
    have hxat : xs[mid]? = some (.ref b) := by rw [List.getElem?_eq_getElem hxm, hxv]
    refine ⟨_, rfl, _, rfl, a, xs, _, _, rfl, rfl, hs, atI_nat hxat, b, (V.ref ra :: vr), 0, V.ref ra, rfl, rfl, hsb, (show atI (V.ref ra :: vr) ((0 : Nat) : Int) = some (V.ref ra) from atI_nat rfl), _, rfl, ra, rb, rkInts rk', rkInts rk, rfl, rfl, hra, hrb, _, rfl, ?_⟩
    rw [le_lex]
    have mono : ∀ i s j t, i < j → (rksOf ds)[i]? = some s → (rksOf ds)[j]? = some t → HT.lexLt t s = false := fun i s j t hij e1 e2 => by
      obtain ⟨l1, e1'⟩ := List.getElem?_eq_some_iff.mp e1
      obtain ⟨l2, e2'⟩ := List.getElem?_eq_some_iff.mp e2
      rw [← e1', ← e2']
      exact List.pairwise_iff_getElem.mp hpw i j l1 l2 hij
    cases hc : HT.lexLt (rkInts rk) (rkInts rk') with
    | false =>
      refine iteT ?_
      refine ⟨_, rfl, _, _, rfl, rfl, ?_⟩
      refine ⟨hi - (mid + 1), by omega, mid + 1, hi, _, rfl, rfl, rfl, by omega, h2, fun i s hi2 e1 => ?_, h4⟩
      by_cases z : i = mid
      · subst z
        rw [hrs] at e1
        rw [← Option.some.inj e1]
        exact hc
      · exact NtL.lex_tr _ _ _ (mono i s mid _ (by omega) e1 hrs) hc
    | true =>
      refine iteF ?_
      refine ⟨_, rfl, ?_⟩
      refine ⟨mid - lo, by omega, lo, mid, _, rfl, rfl, rfl, by omega, by omega, h3, fun i s hi2 e1 => ?_⟩
      by_cases z : i = mid
      · subst z
        rw [hrs] at e1
        rw [← Option.some.inj e1]
        exact hc
      · cases hq : HT.lexLt (rkInts rk) s with
        | true => rfl
        | false =>
          have z2 : HT.lexLt (rkInts rk) (rkInts rk') = false := NtL.lex_tr (rkInts rk') s (rkInts rk) (mono mid _ i s (by omega) hrs e1) hq
          rw [hc] at z2
          exact nomatch z2
  · have c' : ¬ ((lo : Nat) : Int) < (hi : Nat) := fun z => c (decide_eq_true z)
    have e : lo = hi := by omega
    subst e
    exact ⟨_, rfl, q lo ⟨by omega, h3, h4⟩⟩
end
end K65
set_option Elab.async false
set_option linter.all false
set_option maxRecDepth 100000
set_option maxHeartbeats 4000000
namespace L2
open PySem PySem.Spec PyProof.Rows
/-! ### zip(t, u, l): two tuples and a list -/
def Itz3 (K : PySem.W.Frag) (a b c : Addr) : It :=
  ⟨fun i H => ∃ (xs ys zs : List V) (x y u : V), SqT K H a xs ∧ SqT K H b ys ∧ SqL K H c zs ∧ xs[i]? = some x ∧ ys[i]? = some y ∧ zs[i]? = some u,
    fun i H v H' => ∃ T x y u, v = .ref T ∧ H T = none ∧ H' = upd H T (.tup [x, y, u]) ∧ (∀ xs, SqT K H a xs → xs[i]? = some x) ∧ (∀ ys, SqT K H b ys → ys[i]? = some y) ∧ ∀ zs, SqL K H c zs → zs[i]? = some u,
    fun i H => ∃ xs ys zs : List V, SqT K H a xs ∧ SqT K H b ys ∧ SqL K H c zs ∧ i ≤ xs.length ∧ i ≤ ys.length ∧ i ≤ zs.length ∧ (i = xs.length ∨ i = ys.length ∨ i = zs.length)⟩
theorem turn_zip3 {P : Program} {w : World} {K : PySem.W.Frag} {elts : List Expr} {kk : Nat} {tpos : Pos} {a b c z TI TO i1 i2 i3 : Addr} (D : ZipSep3 z TI TO i1 i2 i3 [i1, a] [i2, b] [i3, c]) (na : a ≠ i1) (nb : b ≠ i2) (nc : c ≠ i3) (n12 : i1 ≠ z ∧ i2 ≠ z ∧ i3 ≠ z) :
    Turn P w K (.Tuple elts kk tpos) (Itz3 K a b c) [z, TI, TO, i1, i2, i3] z (fun i h => IsZip h z TI TO .none ∧ IsTupOf3 h TI (.ref i1) (.ref i2) (.ref i3) ∧ (∃ x y u, IsTupOf3 h TO x y u) ∧ h.IsTupleIter i1 a i ∧ h.IsTupleIter i2 b i ∧ h.IsListIter i3 c i) where
  mem := by simp
  obj := fun i h st q hq => by
    obtain ⟨hz, hTI, ⟨x, y, u, hTO⟩, ⟨o1, e1, _, d1⟩, ⟨o2, e2, _, d2⟩, ⟨o3, e3, _, d3⟩⟩ := st
    have e' : q = z ∨ q = TI ∨ q = TO ∨ q = i1 ∨ q = i2 ∨ q = i3 := by simpa using hq
    rcases e' with e | e | e | e | e | e
    · rw [e]; exact ⟨_, hz, fun v q => nomatch q⟩
    · rw [e]; exact ⟨_, hTI, fun v q => nomatch q⟩
    · rw [e]; exact ⟨_, hTO, fun v q => nomatch q⟩
    · rw [e]; exact ⟨o1, e1, fun v q => by rw [d1] at q; cases q⟩
    · rw [e]; exact ⟨o2, e2, fun v q => by rw [d2] at q; cases q⟩
    · rw [e]; exact ⟨o3, e3, fun v q => by rw [d3] at q; cases q⟩
  keep := fun i h h' st k => by
    obtain ⟨hz, hTI, ⟨x, y, u, hTO⟩, h1, h2, h3⟩ := st
    exact ⟨k z (by simp) _ hz, k TI (by simp) _ hTI, ⟨x, y, u, k TO (by simp) _ hTO⟩, h1.at fun o q => k i1 (by simp) o q, h2.at fun o q => k i2 (by simp) o q, h3.at fun o q => k i3 (by simp) o q⟩
  item := by
    intro X hP hw hK hc i pins s σ H E I hf st hg
    subst hP hw hK
    obtain ⟨hz, hTI, ⟨x0, y0, u0, hTO⟩, h1, h2, h3⟩ := st
    obtain ⟨xs, ys, zs, x, y, u, hqx, hqy, hqz, hx, hy, hu⟩ := hg
    obtain ⟨its, rv, p, _⟩ := I.tuple hqx
    obtain ⟨its2, rv2, p2, _⟩ := I.tuple hqy
    obtain ⟨its3, rv3, p3, _⟩ := I.list hqz
    obtain ⟨v1, hv1, r1⟩ := rv.get hx
    obtain ⟨v2, hv2, r2⟩ := rv2.get hy
    obtain ⟨v3, hv3, r3⟩ := rv3.get hu
    have hzl : z < s.heap.objs.size := Heap.lt_size hz
    have hh := I.ok.hd hc
    have D1 := Draws.tuple (prog := X.prog) (w := X.w) (A := X.A.in1) hh i1 a na its.toArray
    have D2 := Draws.tuple (prog := X.prog) (w := X.w) (A := X.A.in1) hh i2 b nb its2.toArray
    have D3 := Draws.list (prog := X.prog) (w := X.w) (A := X.A.in1) hh i3 c nc its3.toArray
    refine wpAny_pyNext_zipD3_item D D1 D2 D3 hz hTI hTO ⟨h1, p⟩ ⟨h2, p2⟩ ⟨h3, p3.isList⟩ (by rw [List.size_toArray]; exact (List.getElem?_eq_some_iff.mp hv1).1) (by rw [List.size_toArray]; exact (List.getElem?_eq_some_iff.mp hv2).1) (by rw [List.size_toArray]; exact (List.getElem?_eq_some_iff.mp hv3).1) fun x1 x2 x3 h' tk P1 P2 P3 z' TO' s1' s2' s3' hT hsz hk => ?_
    have q1 : x1 = v1 := Option.some.inj ((show its.toArray[i]? = some x1 from P1).symm.trans (by simpa using hv1))
    have q2 : x2 = v2 := Option.some.inj ((show its2.toArray[i]? = some x2 from P2).symm.trans (by simpa using hv2))
    have q3 : x3 = v3 := Option.some.inj ((show its3.toArray[i]? = some x3 from P3).symm.trans (by simpa using hv3))
    subst q1 q2 q3
    refine ⟨_, rfl, wpAny_letOwnedTupleGo_zip (s := { s with heap := h', toks := tk }) z' fun h'' z'' sb => ?_⟩
    have hT2 : h''.get? s.heap.objs.size = some { cls := .type "tuple", data := .seq #[x1, x2, x3] } := (sb.2 _ (Nat.ne_of_gt hzl)).trans hT
    have new : ObjOk X.prog X.w (upd H s.heap.objs.size (.tup [x, y, u])) h'' s.heap.objs.size (.tup [x, y, u]) :=
      ⟨by show 3 ≤ sizeLine; decide, [x1, x2, x3], .cons r1 (.cons r2 (.cons r3 .nil)), ⟨_, hT2, rfl, _, rfl⟩⟩
    have I1 : Inv X pins σ (upd H s.heap.objs.size (.tup [x, y, u])) { s with heap := h'', toks := tk } :=
      I.turnedNew (t' := tk) (ch := [z, TI, TO, i1, i2, i3]) (fun q o hb e => (sb.2 q (fun q' => hb (by simp [q']))).trans (hk q o (fun q' => hb (by simp [q'])) (fun q' => hb (by simp [q'])) (fun q' => hb (by simp [q'])) (fun q' => hb (by simp [q'])) (fun q' => hb (by simp [q'])) e)) hf (Nat.le_refl _) new
    refine ⟨.ref s.heap.objs.size, _, I1, rfl, ⟨_, x, y, u, rfl, I.hok.fresh (Nat.le_refl _), rfl, fun l hl => by rw [I.tuple_inj hl hqx]; exact hx, fun l hl => by rw [I.tuple_inj hl hqy]; exact hy, fun l hl => by rw [I.list_inj hl hqz]; exact hu⟩, ⟨z'', ?_, ⟨x1, x2, x3, ?_⟩, ?_, ?_, ?_⟩, fun q hq => ?_⟩
    · exact (sb.2 _ D.TIz).trans (hk _ _ D.TIz D.TITO D.TIi1 D.TIi2 D.TIi3 hTI)
    · exact (sb.2 _ D.TOz).trans TO'
    · exact s1'.1.at fun o q => (sb.2 _ n12.1).trans q
    · exact s2'.1.at fun o q => (sb.2 _ n12.2.1).trans q
    · exact s3'.1.at fun o q => (sb.2 _ n12.2.2).trans q
    · have hlt : q < s.heap.objs.size := by
        have e' : q = z ∨ q = TI ∨ q = TO ∨ q = i1 ∨ q = i2 ∨ q = i3 := by simpa using hq
        rcases e' with e | e | e | e | e | e
        · rw [e]; exact hzl
        · rw [e]; exact Heap.lt_size hTI
        · rw [e]; exact Heap.lt_size hTO
        · rw [e]; obtain ⟨_, e1, _⟩ := h1; exact Heap.lt_size e1
        · rw [e]; obtain ⟨_, e1, _⟩ := h2; exact Heap.lt_size e1
        · rw [e]; obtain ⟨_, e1, _⟩ := h3; exact Heap.lt_size e1
      rw [upd_ne (Nat.ne_of_lt hlt)]
      exact (hf q hq).1
  done := by
    intro X hP hw hK hc i pins s σ H E I hf st hg
    subst hP hw hK
    obtain ⟨hz, hTI, ⟨x0, y0, u0, hTO⟩, h1, h2, h3⟩ := st
    obtain ⟨xs, ys, zs, hqx, hqy, hqz, l1, l2, l3, hend⟩ := hg
    obtain ⟨its, rv, p, _⟩ := I.tuple hqx
    obtain ⟨its2, rv2, p2, _⟩ := I.tuple hqy
    obtain ⟨its3, rv3, p3, _⟩ := I.list hqz
    have e1 := rv.length
    have e2 := rv2.length
    have e3 := rv3.length
    have hh := I.ok.hd hc
    have D1 := Draws.tuple (prog := X.prog) (w := X.w) (A := X.A.in1) hh i1 a na its.toArray
    have D2 := Draws.tuple (prog := X.prog) (w := X.w) (A := X.A.in1) hh i2 b nb its2.toArray
    have D3 := Draws.list (prog := X.prog) (w := X.w) (A := X.A.in1) hh i3 c nc its3.toArray
    refine wpAny_pyNext_zipD3_end D D1 D2 D3 hz hTI hTO ⟨h1, p⟩ ⟨h2, p2⟩ ⟨h3, p3.isList⟩ (by rw [List.size_toArray]; omega) (by rw [List.size_toArray]; omega) (by rw [List.size_toArray]; omega) (by rw [List.size_toArray, List.size_toArray, List.size_toArray]; omega) fun h' tk hk => ⟨rfl, I.turnedL (t' := tk) (ch := [z, TI, TO, i1, i2, i3]) (fun q o hb e =>
      hk q o (fun q' => hb (by simp [q'])) (fun q' => hb (by simp [q'])) (fun q' => hb (by simp [q'])) (fun q' => hb (by simp [q'])) (fun q' => hb (by simp [q'])) e) hf⟩
  self := fun A i s Q E st h => wpAny_pyIter_zip st.1 h
def iZip3 (K : PySem.W.Frag) (ta : TA) : TI := fun σ H R => ta σ H fun vs H1 => ∃ a b c xs ys zs, vs = [.ref a, .ref b, .ref c] ∧ SqT K H1 a xs ∧ SqT K H1 b ys ∧ SqL K H1 c zs ∧ R (Itz3 K a b c) H1
theorem pi_zip3 {X : Cx} {e e2 e3 : Expr} {ta : TA} {p pos tpos : Pos} {elts : List Expr} {kk : Nat} (hg : Gl X "zip") (hm : X.mg "zip" = none) (ha : PA X [e, e2, e3] ta)
    (hs : starEach [e, e2, e3] X.env = (false, eval e X.env) :: starEach [e2, e3] X.env := by rfl) (hpl : (backTo pos (starEach [e2, e3] X.env)).any (·.1) = false := by rfl) :
    PI X (.Tuple elts kk tpos) (.Call (.Name "zip" p) [e, e2, e3] [] pos) (iZip3 X.K ta) := by
  refine ⟨fun pins s σ H R I h => ?_⟩
  refine Call_ (ld_blt I hg hm PyProof.Rows.boot_zip (PyProof.Rows.callWith_type1 (thn (ha.run pos pins s σ H _ I h) fun us s1 ⟨vs, H1, I1, r1, q1⟩ => ?_) hs hpl))
  obtain ⟨a, b, c, xs, ys, zs, ex, hqx, hqy, hqz, q⟩ := q1
  subst ex
  cases r1 with
  | cons r rr =>
  cases rr with
  | cons r' rr =>
  cases rr with
  | cons r'' rr =>
  cases rr
  cases r
  cases r'
  cases r''
  obtain ⟨its, rv, p1, _⟩ := I1.tuple hqx
  obtain ⟨its2, rv2, p2, _⟩ := I1.tuple hqy
  obtain ⟨its3, rv3, p3, _⟩ := I1.list hqz
  have la : a < s1.heap.objs.size := by
    obtain ⟨o, ho, _⟩ := id p1
    exact Heap.lt_size ho
  have lb : b < s1.heap.objs.size := by
    obtain ⟨o, ho, _⟩ := id p2
    exact Heap.lt_size ho
  have lc : c < s1.heap.objs.size := p3.lt
  refine zip_begins3 (begins_tuple a its.toArray) (begins_tuple b its2.toArray) (begins_list c its3.toArray) p1 p2 p3.isList fun h' hz hTI hTO g1 g2 g3 hsz hk => wpAny_pyIter_zip hz ?_
  have I2 : Inv X pins σ H1 { s1 with heap := h' } := I1.kept (t' := s1.toks) hk
  have S := zip_sep3 (N := s1.heap.objs.size) (fp1 := [a]) (fp2 := [b]) (fp3 := [c]) (by simpa using la) (by simpa using lb) (by simpa using lc)
  refine ⟨s1.heap.objs.size + 5, [s1.heap.objs.size + 5, s1.heap.objs.size + 3, s1.heap.objs.size + 4, s1.heap.objs.size, s1.heap.objs.size + 1, s1.heap.objs.size + 2], _, _, H1, rfl, I2, turn_zip3 S (Nat.ne_of_lt la) (Nat.ne_of_lt (Nat.lt_succ_of_lt lb)) (Nat.ne_of_lt (Nat.lt_succ_of_lt (Nat.lt_succ_of_lt lc))) ⟨Nat.ne_of_lt (by omega), Nat.ne_of_lt (by omega), Nat.ne_of_lt (by omega)⟩, ⟨hz, hTI, ⟨_, _, _, hTO⟩, ⟨_, g1, rfl, rfl⟩, ⟨_, g2, rfl, rfl⟩, ⟨_, g3, rfl, rfl⟩⟩, fun d hd => ?_, q⟩
  have e' : d = s1.heap.objs.size + 5 ∨ d = s1.heap.objs.size + 3 ∨ d = s1.heap.objs.size + 4 ∨ d = s1.heap.objs.size ∨ d = s1.heap.objs.size + 1 ∨ d = s1.heap.objs.size + 2 := by simpa using hd
  have hle : s1.heap.objs.size ≤ d := by
    rcases e' with z | z | z | z | z | z
    · rw [z]; exact Nat.le_add_right _ _
    · rw [z]; exact Nat.le_add_right _ _
    · rw [z]; exact Nat.le_add_right _ _
    · rw [z]; exact Nat.le_refl _
    · rw [z]; exact Nat.le_add_right _ _
    · rw [z]; exact Nat.le_add_right _ _
  exact I1.fpOk hle (I1.hok.fresh hle)
/-- a loop over it, all of one length -/
theorem for_zip3 {K : PySem.W.Frag} {a b c : Addr} {xs ys zs : List V} {g : TG} {tb : TS} {D : Ends} {σ : L2.St} {H : Hp} (hl : xs.length = ys.length) (hl2 : xs.length = zs.length) (Pv : Nat → L2.St → Hp → Prop) (h0 : Pv 0 σ H) (hq : ∀ i σ H, Pv i σ H → SqT K H a xs ∧ SqT K H b ys ∧ SqL K H c zs)
    (hs : ∀ (i : Nat) (x y u : V) (T : Addr) (σ : L2.St) (H : Hp), xs[i]? = some x → ys[i]? = some y → zs[i]? = some u → Pv i σ H → H T = none → g (.ref T) σ (upd H T (.tup [x, y, u])) fun σ2 H2 => tb { D with nx := Pv (i + 1), ct := Pv (i + 1), bk := D.nx } σ2 H2) (hd : ∀ σ H, Pv xs.length σ H → D.nx σ H) :
    ∃ W : Nat → Nat → L2.St → Hp → Prop, (∃ m, W 0 m σ H) ∧ ∀ i m σ H, W i m σ H →
      ((Itz3 K a b c).stop i H ∧ D.nx σ H) ∨ ((Itz3 K a b c).go i H ∧ ∃ N : L2.St → Hp → Prop, (∀ σ' H', N σ' H' → ∃ m', m' < m ∧ W (i + 1) m' σ' H') ∧ ∀ v H', (Itz3 K a b c).yld i H v H' → g v σ H' fun σ2 H2 => tb { D with nx := N, ct := N, bk := D.nx } σ2 H2) := by
  refine ⟨fun i m σ H => m = xs.length - i ∧ i ≤ xs.length ∧ Pv i σ H, ⟨xs.length, rfl, Nat.zero_le _, h0⟩, ?_⟩
  rintro i m σ H ⟨rfl, hi, p⟩
  obtain ⟨qx, qy, qz⟩ := hq i σ H p
  by_cases hlt : i < xs.length
  · have hx : xs[i]? = some xs[i] := List.getElem?_eq_getElem hlt
    have hy : ys[i]? = some (ys[i]'(by omega)) := List.getElem?_eq_getElem (by omega)
    have hz : zs[i]? = some (zs[i]'(by omega)) := List.getElem?_eq_getElem (by omega)
    refine .inr ⟨⟨xs, ys, zs, _, _, _, qx, qy, qz, hx, hy, hz⟩, Pv (i + 1), fun σ' H' p' => ⟨xs.length - (i + 1), by omega, rfl, hlt, p'⟩, fun v H' y => ?_⟩
    obtain ⟨T, x', y', u', rfl, hT, rfl, f1, f2, f3⟩ := y
    exact hs i x' y' u' T σ H (f1 xs qx) (f2 ys qy) (f3 zs qz) p hT
  · have e : i = xs.length := by omega
    subst e
    exact .inl ⟨⟨xs, ys, zs, qx, qy, qz, Nat.le_refl _, Nat.le_of_eq hl, Nat.le_of_eq hl2, .inl rfl⟩, hd σ H p⟩
end L2
set_option Elab.async false
set_option linter.all false
set_option maxRecDepth 100000
set_option maxHeartbeats 4000000
namespace K65
open PySem PySem.Spec PyProof.Rows L2 Dt
/-! ### need_absent -/
def absentB (kv : List (Key × V)) (o : Option Int) : Bool := belowB packB o && (match o with | some i => !(valV kv (Sum.inl i : Key)).isSome | none => false)
def spAbsent (K : PySem.W.Frag) (CS U : Addr) : Sp := fun vs H Q E => ∃ (a dx ta la sd : Addr) (x : V) (o : Option Int) (kv : List (Key × V)), vs = [.ref a, x] ∧ H a = some (.ins CS dx (stS ta la sd)) ∧ H sd = some (.dK kv) ∧ NumV K H x o ∧
  (absentB kv o = true → Q .non H) ∧ (absentB kv o = false → ∀ H', Same H H' → Out U "number" H' E)
section
variable {P : Program} {w : World} {K : PySem.W.Frag} {mg : Str → Option Value} {base : Heap} {C CS U : Addr}
theorem ok_absent (D : DefAt K mg "need_absent" s_need_absent ["standing", "number"]) (SC : StCl K CS) (mp : ∃ t, mg "PACKET_BOUND" = some (.int packB t)) (GB : CalX P w K mg base CX0 3 "is_below" ["thing", "bound"] (spBelow K)) (GN : CalX P w K mg base (L2.CX P w) 3 "need" ["fits", "word"] (spNeed U)) :
    CalX P w K mg base (L2.CX P w) 4 "need_absent" ["standing", "number"] (spAbsent K CS U) := by
  obtain ⟨tk, mp⟩ := mp
  refine D.okX sc_need_absent (fun vs H Q E h => ?_) (fun f cdv A outer s H vs Q E hr h => ?_)
  · obtain ⟨a, dx, ta, la, sd, x, o, kv, rfl, _⟩ := h
    rfl
  obtain ⟨a, dx, ta, la, sd, x, o, kv, rfl, hob, hsd, hx, q1, q2⟩ := h
  have hu := hu_of hr
  refine ⟨_, pss_one (ps_expr (pe_cx GN hr (by decide) rfl (passes_call (takes_of rfl rfl rfl rfl) (fun _ _ _ _ h => h)) (pa_cons (pe_and (pe_c0 GB hr (by decide) rfl (pa_cons (pv 1) (pa_cons (pe_glob (v := .int packB) (by rfl) mp ⟨_, rfl⟩) pa_nil))) (pe_one (pe_cmp (pc_dnotin hu (pv 1) (pe_fld (pv 0) rfl))))) (pa_cons pe_str pa_nil)))), ?_⟩
  refine ⟨_, rfl, x, o, packB, rfl, hx, _, rfl, ?_⟩
  have fin : ∀ b, absentB kv o = b → spNeed U [.bl b, .str (Str.ofString "number")] H (fun _ H' => Q .non H') E := fun b hb => ⟨b, _, rfl, fun e => q1 (hb.trans e), fun e d hd => q2 (hb.trans e) H (fun _ _ z => z) d hd⟩
  cases hb : belowB packB o with
  | false =>
    refine iteF ?_
    exact fin false (by unfold absentB; rw [hb]; rfl)
  | true =>
    refine iteT ?_
    cases o with
    | none => exact nomatch hb
    | some i =>
      obtain rfl : x = .int i := hx
      refine ⟨_, rfl, _, rfl, a, CS, dx, _, _, rfl, hob, SC.cl, SC.nS, rfl, sd, _, rfl, .inl ⟨kv, (Sum.inl i : Key), .inl hsd, rfl, rfl⟩, ?_⟩
      refine fin _ ?_
      unfold absentB
      rw [hb]
      rfl
end
end K65
set_option Elab.async false
set_option linter.all false
set_option maxRecDepth 100000
set_option maxHeartbeats 4000000
namespace K65
open PySem PySem.Spec PyProof.Rows L2 Dt
/-! ### Standing: form_of, all_lines -/
def rTupQ (K : PySem.W.Frag) : List V → Hp → VK → Prop := fun xs H Q => ∃ p ys, xs = [.ref p] ∧ ((SqL K H p ys ∧ ∀ l, H l = none → Q (.ref l) (upd H l (.tup ys))) ∨ (SqT K H p ys ∧ Q (.ref p) H))
theorem call_tuple_ofK {X : Cx} {K : PySem.W.Frag} (hK : X.K = K) : CallR X (.type "tuple") (rTupQ K) := by
  subst hK
  exact call_tuple_of
def spStForm (K : PySem.W.Frag) (C CS : Addr) : Sp := fun vs H Q _ => ∃ (a dx ta la sd : Addr) (Ls : List Addr) (T : Dt) (xs : Nat → List V) (kv : List (Key × V)), vs = [.ref a] ∧ Stand K C CS H a dx ta la sd Ls T xs kv ∧ ∀ fv, ShV K H fv T → Q fv H
def spAllLines (K : PySem.W.Frag) (C CS : Addr) : Sp := fun vs H Q _ => ∃ (a dx ta la sd : Addr) (Ls : List Addr) (T : Dt) (xs : Nat → List V) (kv : List (Key × V)), vs = [.ref a] ∧ Stand K C CS H a dx ta la sd Ls T xs kv ∧ Ls.length ≤ 1000 ∧
  ∀ H' p (Ts : List Addr), Same H H' → H' p = some (.tup (Ts.map V.ref)) → Ts.length = Ls.length → (∀ i t, Ts[i]? = some t → H' t = some (.tup (xs i)) ∧ H t = none) → H p = none → Q (.ref p) H'
section
variable {P : Program} {w : World} {K : PySem.W.Frag} {mg : Str → Option Value} {base : Heap} {C CS U fG : Addr}
theorem ok_allLines {f : Addr} {fd : FuncData} (F : Fun K "all_lines" "Standing.all_lines" s_Standing_all_lines f fd) (T0 : Txt K mg) (SC : StCl K CS) : FnOk P w K mg base CX0 1 f fd ["self"] (spAllLines K C CS) := by
  refine F.ok sc_Standing_all_lines (fun vs H Q E h => ?_) (fun cdv A outer s H vs Q E hr h => ?_)
  · obtain ⟨a, dx, ta, la, sd, Ls, T, xs, kv, rfl, _⟩ := h
    rfl
  obtain ⟨a, dx, ta, la, sd, Ls, T, xs, kv, rfl, S, hn, q⟩ := h
  refine ⟨_, pss_one (ps_ret (pe_callTy call_tuple_of (by rfl) T0.tuple PyProof.Rows.boot_tuple (pa_cons (pe_lc (own := [("line", 1)]) (g := gName 1) (tt := tYes) (by rfl) sc_Standing_all_lines.nd (pi_list (pe_fld (pv 0) rfl)) (blkOk_by (own := [("line", 1)]) (N := N_Standing_all_lines) (sc := defScope s_Standing_all_lines) (by decide +kernel)) (fun _ _ _ _ _ => pg_name (i := 1) sc_Standing_all_lines.nd rfl (Or.inl rfl)) (fun _ _ _ _ _ => pts_nil) (fun _ _ _ _ _ => by exact (pe_callTy (call_tuple_ofK (K := K) (by exact rfl)) (by rfl) T0.tuple PyProof.Rows.boot_tuple (pa_cons (pv 1) pa_nil)))) pa_nil))), ?_⟩
  refine ⟨_, rfl, a, CS, dx, _, _, rfl, S.ob, SC.cl, SC.nL, rfl, la, rfl, ⟨_, SqL.of S.ln⟩, fun Dl hDl => ?_⟩
  refine lc_list (K := K) (a := la) (xs := Ls.map V.ref) (fun j H' => Same H H' ∧ ∃ Ts : List Addr, H' Dl = some (.lst (Ts.map V.ref)) ∧ Ts.length = j ∧ ∀ i t, Ts[i]? = some t → H' t = some (.tup (xs i)) ∧ H t = none) ⟨same_new hDl, [], upd_same, rfl, (fun i t z => nomatch z)⟩ (fun j H' _ hh => SqL.of (hh.1 _ _ S.ln)) ?_ ?_
  · rintro j x H' hj ⟨sm, Ts, hD, hl, hT⟩
    rw [List.getElem?_map] at hj
    obtain ⟨l, hlj, rfl⟩ := Option.map_eq_some_iff.mp hj
    have hjl := (List.getElem?_eq_some_iff.mp hlj).1
    refine ⟨rfl, _, rfl, l, _, rfl, .inl ⟨SqL.of (sm _ _ (S.li j l hlj)), fun p hp => ?_⟩⟩
    have npD : p ≠ Dl := fun e => by
      rw [e, hD] at hp
      exact nomatch hp
    have keep : ∀ t ys, H' t = some (.tup ys) → (upd (upd H' p (.tup (xs j))) Dl (.lst (Ts.map V.ref ++ [.ref p]))) t = some (.tup ys) := fun t ys h => by
      rw [upd_ne]
      · exact (same_new hp) _ _ h
      · intro e
        rw [e, hD] at h
        exact HO.noConfusion (Option.some.inj h)
    refine ⟨Ts.map V.ref, (same_new hp) _ _ hD, small1000 (by rw [List.length_map]; omega), same_mut (sm.trans (same_new hp)) hDl, Ts ++ [p], by rw [upd_same, List.map_append]; rfl, by rw [List.length_append]; show Ts.length + 1 = j + 1; omega, fun i t ht => ?_⟩
    by_cases c : i < Ts.length
    · rw [List.getElem?_append_left c] at ht
      exact ⟨keep t _ (hT i t ht).1, (hT i t ht).2⟩
    · have hi := (List.getElem?_eq_some_iff.mp ht).1
      rw [List.length_append] at hi
      have hi2 : i < Ts.length + 1 := hi
      obtain rfl : i = Ts.length := by omega
      rw [List.getElem?_append_right (Nat.le_refl _), Nat.sub_self] at ht
      obtain rfl := Option.some.inj ht
      rw [hl]
      refine ⟨?_, sm.free hp⟩
      rw [upd_ne npD]
      exact upd_same
  · rintro H2 ⟨sm, Ts, hD, hl, hT⟩
    rw [List.length_map] at hl
    refine ⟨Dl, _, rfl, .inl ⟨SqL.of hD, fun p hp => ?_⟩⟩
    exact q _ p Ts (sm.trans (same_new hp)) upd_same hl (fun i t ht => ⟨(same_new hp) _ _ (hT i t ht).1, (hT i t ht).2⟩) (sm.free hp)
end
end K65
set_option Elab.async false
set_option linter.all false
set_option maxRecDepth 100000
set_option maxHeartbeats 4000000
namespace K65
open PySem PySem.Spec PyProof.Rows L2
/-! ### an entry put in its place leaves a line -/
theorem line_of_facts : ∀ (ds : List PyData) (last : List Int), (∀ d ∈ ds, IsEn d) → (rksOf ds).Pairwise (fun p q => HT.lexLt q p = false) → (∀ r ∈ rksOf ds, HT.lexLt r last = false) → lineGo last ds = true
  | [], _, _, _, _ => rfl
  | e :: ds, last, h1, h2, h3 => by
    obtain ⟨rk, it, rfl, hr⟩ := h1 e (List.mem_cons_self ..)
    have e1 : rksOf (.tuple [rk, it] :: ds) = rkInts rk :: rksOf ds := rfl
    rw [e1] at h2 h3
    obtain ⟨p1, p2⟩ := List.pairwise_cons.mp h2
    rw [lineGo_pair, hr, h3 _ (List.mem_cons_self ..), line_of_facts ds (rkInts rk) (fun d hd => h1 d (List.mem_cons_of_mem _ hd)) p2 (fun r hr => p1 r hr)]
    rfl
def insD (ds : List PyData) (p : Nat) (e : PyData) : List PyData := ds.take p ++ [e] ++ ds.drop p
theorem lex_nil (xs : List Int) : HT.lexLt xs [] = false := by cases xs <;> rfl
theorem insert_line {ds : List PyData} {rk it : PyData} {p : Nat} (h : lineOf (.tuple ds) = true) (hr : rankOf rk = true) (hp : PlaceIs (rksOf ds) (rkInts rk) p) : lineOf (.tuple (insD ds p (.tuple [rk, it]))) = true := by
  obtain ⟨h1, h2, _⟩ := line_facts ds [] h
  have er : rksOf (insD ds p (.tuple [rk, it])) = (rksOf ds).take p ++ [rkInts rk] ++ (rksOf ds).drop p := by
    unfold insD rksOf
    rw [List.map_append, List.map_append, List.map_take, List.map_drop]
    rfl
  refine line_of_facts _ [] (fun d hd => ?_) ?_ fun r _ => lex_nil r
  · rcases List.mem_append.mp hd with hd | hd
    · rcases List.mem_append.mp hd with hd | hd
      · exact h1 d (List.mem_of_mem_take hd)
      · rw [List.mem_singleton.mp hd]
        exact ⟨rk, it, rfl, hr⟩
    · exact h1 d (List.mem_of_mem_drop hd)
  · rw [er]
    have hpair : ((rksOf ds).take p ++ (rksOf ds).drop p).Pairwise (fun p q => HT.lexLt q p = false) := by
      rw [List.take_append_drop]
      exact h2
    obtain ⟨a1, a2, a3⟩ := List.pairwise_append.mp hpair
    have low : ∀ s ∈ (rksOf ds).take p, HT.lexLt (rkInts rk) s = false := fun s hs => by
      obtain ⟨i, hi⟩ := List.mem_iff_getElem?.mp hs
      have hil := (List.getElem?_eq_some_iff.mp hi).1
      rw [List.length_take] at hil
      rw [List.getElem?_take_of_lt (by omega)] at hi
      exact hp.lo i s (by omega) hi
    have high : ∀ s ∈ (rksOf ds).drop p, HT.lexLt s (rkInts rk) = false := fun s hs => by
      obtain ⟨i, hi⟩ := List.mem_iff_getElem?.mp hs
      rw [List.getElem?_drop] at hi
      exact NtL.lex_asym _ _ (hp.hi (p + i) s (by omega) hi)
    rw [List.append_assoc]
    refine List.pairwise_append.mpr ⟨a1, List.pairwise_cons.mpr ⟨fun s hs => high s hs, a2⟩, fun s hs t ht => ?_⟩
    rcases List.mem_cons.mp ht with rfl | ht
    · exact low s hs
    · exact a3 s hs t ht
theorem place_count {rs : List (List Int)} {r : List Int} {p q : Nat} (h : PlaceIs rs r p) (g : PlaceIs rs r q) : p = q := by
  rcases Nat.lt_trichotomy p q with c | c | c
  · have hl : p < rs.length := Nat.lt_of_lt_of_le c g.le
    have e : rs[p]? = some (rs[p]'hl) := List.getElem?_eq_getElem hl
    have z1 := h.hi p _ (Nat.le_refl _) e
    rw [g.lo p _ c e] at z1
    exact nomatch z1
  · exact c
  · have hl : q < rs.length := Nat.lt_of_lt_of_le c h.le
    have e : rs[q]? = some (rs[q]'hl) := List.getElem?_eq_getElem hl
    have z1 := g.hi q _ (Nat.le_refl _) e
    rw [h.lo q _ c e] at z1
    exact nomatch z1
/-! ### a pushed packet: the lines along its way -/
/-- from lines to lines, an entry for each node of the way -/
inductive Pushed : (Nat → List PyData) → List (Nat × PyData × Int) → (Nat → List PyData) → Prop
  | nil (ds : Nat → List PyData) : Pushed ds [] ds
  | cons {ds es : Nat → List PyData} {n : Nat} {rk : PyData} {it : Int} {r : List (Nat × PyData × Int)} {p : Nat} (hp : PlaceIs (rksOf (ds n)) (rkInts rk) p) (t : Pushed (fun i => if i = n then insD (ds n) p (.tuple [rk, .int it]) else ds i) r es) : Pushed ds ((n, rk, it) :: r) es
theorem Pushed.lines {ds es : Nat → List PyData} {r : List (Nat × PyData × Int)} (h : Pushed ds r es) (hr : ∀ e ∈ r, rankOf e.2.1 = true) (hd : ∀ i, lineOf (.tuple (ds i)) = true) : ∀ i, lineOf (.tuple (es i)) = true := by
  induction h with
  | nil ds => exact hd
  | @cons ds es n rk it r p hp t ih =>
    refine ih (fun e he => hr e (List.mem_cons_of_mem _ he)) fun i => ?_
    dsimp only
    by_cases c : i = n
    · rw [if_pos c]
      exact insert_line (hd n) (hr _ (List.mem_cons_self ..)) hp
    · rw [if_neg c]
      exact hd i
end K65
set_option Elab.async false
set_option linter.all false
set_option maxRecDepth 100000
set_option maxHeartbeats 4000000
namespace K65
open PySem PySem.Spec PyProof.Rows L2 Dt
/-! data without lists: lists may change -/
mutual
def noL : PyData → Bool
  | .list _ => false
  | .dict _ => false
  | .tuple ds => noLs ds
  | .none => true
  | .bool _ => true
  | .int _ => true
  | .str _ => true
def noLs : List PyData → Bool
  | [] => true
  | d :: ds => noL d && noLs ds
end
theorem keep_sqt {K : PySem.W.Frag} {H H' : Hp} {a : Addr} {xs : List V} (k : KeepT H H') (h : SqT K H a xs) : SqT K H' a xs := by
  rcases h with (h | ⟨o, h⟩) | h
  · exact .inl (.inl ((k _ _).1 h))
  · exact .inl (.inr ⟨o, (k _ _).2 o h⟩)
  · exact .inr h
theorem dps_keep {K : PySem.W.Frag} {H H' : Hp} (k : KeepT H H') : ∀ {vs : List V} {ds : List PyData}, DpAll K H vs ds → noLs ds = true → DpAll K H' vs ds
  | _, _, .nil, _ => .nil
  | _, _, @DpAll.cons _ _ v vs d ds h q, n => by
    unfold noLs at n
    rw [Bool.and_eq_true] at n
    have hq := dps_keep k q n.2
    have n1 := n.1
    cases h with
    | tup hs ha =>
      unfold noL at n1
      exact .cons (.tup (keep_sqt k hs) (dps_keep k ha n1)) hq
    | non => exact .cons .non hq
    | bl b => exact .cons (.bl b) hq
    | int i => exact .cons (.int i) hq
    | str z => exact .cons (.str z) hq
    | lst _ _ =>
      unfold noL at n1
      exact nomatch n1
theorem dp_keep {K : PySem.W.Frag} {H H' : Hp} (k : KeepT H H') {v : V} {d : PyData} (h : Dp K H v d) (n : noL d = true) : Dp K H' v d := by
  have := dps_keep (vs := [v]) (ds := [d]) k (.cons h .nil) (by unfold noLs; rw [n]; unfold noLs; rfl)
  cases this with
  | cons h _ => exact h
def intsD (l : List Int) : PyData := .tuple (l.map PyData.int)
theorem noL_ints : ∀ l : List Int, noLs (l.map PyData.int) = true
  | [] => by unfold noLs; rfl
  | i :: l => by
    rw [List.map_cons]
    unfold noLs
    rw [noL_ints l]
    unfold noL
    rfl
theorem noL_ranks : ∀ rs : List (List Int), noLs (rs.map intsD) = true
  | [] => by unfold noLs; rfl
  | r :: rs => by
    rw [List.map_cons]
    unfold noLs
    rw [noL_ranks rs]
    unfold intsD noL
    rw [noL_ints]
    rfl

theorem noLs_app : ∀ a b : List PyData, noLs (a ++ b) = (noLs a && noLs b)
  | [], b => by
    show noLs b = (noLs [] && noLs b)
    unfold noLs
    rfl
  | d :: a, b => by
    have e1 : ∀ l, noLs (d :: l) = (noL d && noLs l) := fun l => by rw [noLs]
    rw [List.cons_append, e1, e1, noLs_app a b, Bool.and_assoc]
theorem noLs_take {p : Nat} {ds : List PyData} (h : noLs ds = true) : noLs (ds.take p) = true ∧ noLs (ds.drop p) = true := by
  have e := noLs_app (ds.take p) (ds.drop p)
  rw [List.take_append_drop, h] at e
  exact Bool.and_eq_true_iff.mp e.symm
theorem noL_rank {rk : PyData} (h : rankOf rk = true) : noL rk = true := by
  cases rk with
  | tuple ds =>
    have h' : (decide (ds.length ≤ 8) && ds.all partB) = true := h
    rw [Bool.and_eq_true] at h'
    unfold noL
    have g : ∀ l : List PyData, l.all partB = true → noLs l = true := by
      intro l
      induction l with
      | nil => intro _; unfold noLs; rfl
      | cons d l ih =>
        intro hl
        rw [List.all_cons, Bool.and_eq_true] at hl
        unfold noLs
        rw [ih hl.2, Bool.and_true]
        cases d with
        | int i => unfold noL; rfl
        | none => exact nomatch hl.1
        | bool _ => exact nomatch hl.1
        | str _ => exact nomatch hl.1
        | list _ => exact nomatch hl.1
        | tuple _ => exact nomatch hl.1
        | dict _ => exact nomatch hl.1
    exact g ds h'.2
  | _ => exact nomatch h
theorem noL_insert {ds : List PyData} {p : Nat} {rk : PyData} {it : Int} (h : noLs ds = true) (hr : rankOf rk = true) : noLs (insD ds p (.tuple [rk, .int it])) = true := by
  have e := noL_rank hr
  obtain ⟨h1, h2⟩ := noLs_take (p := p) h
  unfold insD
  rw [noLs_app, noLs_app, h1, h2]
  simp [noLs, noL, e]
/-- a standing whose lines hold these data -/
structure StD (K : PySem.W.Frag) (C CS : Addr) (H : Hp) (a dx ta la sd : Addr) (Ls : List Addr) (T : Dt) (ds : Nat → List PyData) (kv : List (Key × V)) : Prop where
  st : ∃ xs, Stand K C CS H a dx ta la sd Ls T xs kv ∧ ∀ i, i < T.nodes → DpAll K H (xs i) (ds i)
  ln : ∀ i, lineOf (.tuple (ds i)) = true
  no : ∀ i, noLs (ds i) = true
theorem Tree.keepL {K : PySem.W.Frag} {H H' : Hp} {C ta : Addr} {T : Dt} (t : Tree K H C ta T) (h : ∀ dx fv L S, TreeAt C H ta dx fv L S → TreeAt C H' ta dx fv L S) (k : KeepT H H') : Tree K H' C ta T := by
  obtain ⟨dx, fv, L, S, h1, h2, h3, h4⟩ := t
  exact ⟨dx, fv, L, S, h dx fv L S h1, fun i hi => Paired.mono (fun v q c => Cell.keep k i v q c) (h2 i hi), h3.keep k, h4⟩
end K65
set_option Elab.async false
set_option linter.all false
set_option maxRecDepth 100000
set_option maxHeartbeats 4000000
namespace K65
open PySem PySem.Spec PyProof.Rows L2
open Dt (sub sub_nil sub_app sub_one sub_pre)
/-! ### lines by addresses: orders, departures, pushes -/
abbrev En := List Int × Int
abbrev Lns := Ad → List En
def sh (j : Nat) (L : Lns) : Lns := fun q => L (j :: q)
def its (l : List En) : List Int := l.map (·.2)
def chs (l : List En) : List Nat := l.map fun e => e.2.toNat
def dropAt (o : Nat → List Int) (c : Nat) : Nat → List Int := fun j => if j = c then (o j).tail else o j
/-- each child gives the next of its order -/
def mrg : List Nat → (Nat → List Int) → List Int
  | [], _ => []
  | c :: cs, o => (o c).headD 0 :: mrg cs (dropAt o c)
theorem mrg_len : ∀ (cs : List Nat) (o : Nat → List Int), (mrg cs o).length = cs.length
  | [], _ => rfl
  | c :: cs, o => by
    show (mrg cs (dropAt o c)).length + 1 = _
    rw [mrg_len cs]
    rfl
def Enough (cs : List Nat) (o : Nat → List Int) : Prop := ∀ j, cs.count j ≤ (o j).length
theorem Enough.tail {c : Nat} {cs : List Nat} {o : Nat → List Int} (h : Enough (c :: cs) o) : Enough cs (dropAt o c) := fun j => by
  have := h j
  unfold dropAt
  by_cases e : j = c
  · subst e
    rw [if_pos rfl, List.length_tail]
    rw [List.count_cons_self] at this
    omega
  · rw [if_neg e]
    rw [List.count_cons_of_ne (Ne.symm e)] at this
    exact this
theorem Enough.head {c : Nat} {cs : List Nat} {o : Nat → List Int} (h : Enough (c :: cs) o) : ∃ x t, o c = x :: t := by
  have := h c
  rw [List.count_cons_self] at this
  cases e : o c with
  | nil =>
    rw [e] at this
    exact absurd this (by simp)
  | cons x t => exact ⟨x, t, rfl⟩
theorem mrg_mem : ∀ (cs : List Nat) (o : Nat → List Int), Enough cs o → ∀ x ∈ mrg cs o, ∃ j, j ∈ cs ∧ x ∈ o j
  | [], _, _, x, h => nomatch h
  | c :: cs, o, hn, x, h => by
    obtain ⟨y, t, ey⟩ := hn.head
    rcases List.mem_cons.mp (show x ∈ (o c).headD 0 :: mrg cs (dropAt o c) from h) with e | h
    · refine ⟨c, List.mem_cons_self .., ?_⟩
      rw [e, ey]
      exact List.mem_cons_self ..
    · obtain ⟨j, hj, hx⟩ := mrg_mem cs _ hn.tail x h
      refine ⟨j, List.mem_cons_of_mem _ hj, ?_⟩
      unfold dropAt at hx
      by_cases e : j = c
      · rw [if_pos e] at hx
        exact List.mem_of_mem_tail hx
      · rw [if_neg e] at hx
        exact hx
theorem mrg_filter2 (P : Int → Bool) : ∀ (cs : List Nat) (o : Nat → List Int) (j : Nat), Enough cs o → (∀ i, i ∈ cs → i ≠ j → ∀ x ∈ o i, P x = false) → (mrg cs o).filter P = ((o j).take (cs.count j)).filter P
  | [], _, _, _, _ => rfl
  | c :: cs, o, j, hn, hi => by
    obtain ⟨y, t, ey⟩ := hn.head
    have ih := mrg_filter2 P cs (dropAt o c) j hn.tail (fun i hic e x hx => by
      unfold dropAt at hx
      by_cases e2 : i = c
      · rw [if_pos e2] at hx
        exact hi i (List.mem_cons_of_mem _ hic) e x (List.mem_of_mem_tail hx)
      · rw [if_neg e2] at hx
        exact hi i (List.mem_cons_of_mem _ hic) e x hx)
    have e1 : mrg (c :: cs) o = y :: mrg cs (dropAt o c) := by
      show (o c).headD 0 :: _ = _
      rw [ey]
      rfl
    rw [e1, List.filter_cons, ih]
    by_cases e : c = j
    · subst e
      have : dropAt o c c = t := by
        unfold dropAt
        rw [if_pos rfl, ey]
        rfl
      rw [this, ey, List.count_cons_self, List.take_succ_cons, List.filter_cons]
    · have ny := hi c (List.mem_cons_self ..) e y (by rw [ey]; exact List.mem_cons_self ..)
      have : dropAt o c j = o j := by
        unfold dropAt
        rw [if_neg (Ne.symm e)]
      rw [ny, this, List.count_cons_of_ne e]
      rfl
theorem mrg_congr : ∀ (cs : List Nat) (o o' : Nat → List Int), (∀ j ∈ cs, o j = o' j) → mrg cs o = mrg cs o'
  | [], _, _, _ => rfl
  | c :: cs, o, o', h => by
    show (o c).headD 0 :: mrg cs (dropAt o c) = (o' c).headD 0 :: mrg cs (dropAt o' c)
    rw [h c (List.mem_cons_self ..), mrg_congr cs (dropAt o c) (dropAt o' c) fun j hj => by
      unfold dropAt
      rw [h j (List.mem_cons_of_mem _ hj)]]
theorem mrg_snoc (n : Int) : ∀ (cs : List Nat) (o : Nat → List Int) (j : Nat), Enough cs o → cs.count j = (o j).length → mrg (cs ++ [j]) (fun i => if i = j then o i ++ [n] else o i) = mrg cs o ++ [n]
  | [], o, j, hn, h => by
    have e : o j = [] := List.eq_nil_of_length_eq_zero (by rw [← h]; rfl)
    show [((fun i => if i = j then o i ++ [n] else o i) j).headD 0] = [n]
    simp [e]
  | c :: cs, o, j, hn, h => by
    obtain ⟨y, t, ey⟩ := hn.head
    have ih := mrg_snoc n cs (dropAt o c) j hn.tail (by
      unfold dropAt
      by_cases e : j = c
      · subst e
        rw [if_pos rfl, List.length_tail]
        rw [List.count_cons_self] at h
        omega
      · rw [if_neg e, ← h, List.count_cons_of_ne (Ne.symm e)])
    show ((if c = j then o c ++ [n] else o c).headD 0) :: mrg (cs ++ [j]) (dropAt (fun i => if i = j then o i ++ [n] else o i) c) = ((o c).headD 0 :: mrg cs (dropAt o c)) ++ [n]
    have e1 : (if c = j then o c ++ [n] else o c).headD 0 = (o c).headD 0 := by
      split
      · rw [ey]
        rfl
      · rfl
    have e2 : dropAt (fun i => if i = j then o i ++ [n] else o i) c = fun i => if i = j then dropAt o c i ++ [n] else dropAt o c i := by
      funext i
      unfold dropAt
      by_cases a : i = c
      · subst a
        dsimp only
        by_cases b : i = j
        · rw [if_pos rfl, if_pos b, if_pos b, if_pos rfl, ey]
          rfl
        · rw [if_pos rfl, if_neg b, if_neg b, if_pos rfl]
      · rw [if_neg a, if_neg a]
    rw [e1, e2, ih]
    rfl
/-! the order of a node -/
def ordK : Dt → Lns → Nat → List (List Int)
  | .c k r, L, j => (if k.len = 0 then its (L [j]) else mrg (chs (L [j])) fun i => (ordK k (sh j L) 0).getD i []) :: ordK r L (j + 1)
  | _, _, _ => []
def ord (u : Dt) (L : Lns) : List Int := if u.len = 0 then its (L []) else mrg (chs (L [])) fun i => (ordK u L 0).getD i []
theorem ordK_c (k r : Dt) (L : Lns) (j : Nat) : ordK (.c k r) L j = ord k (sh j L) :: ordK r L (j + 1) := by
  rw [ordK]
  rfl
theorem ordK_at : ∀ (u : Dt) (L : Lns) (j i : Nat) (k : Dt), u.kids[i]? = some k → (ordK u L j)[i]? = some (ord k (sh (j + i) L))
  | .x, _, _, _, _, h => by simp [Dt.kids] at h
  | .o, _, _, _, _, h => by simp [Dt.kids] at h
  | .c k r, L, j, 0, k', h => by
    have e : k = k' := by simpa [Dt.kids] using h
    rw [ordK_c, e]
    rfl
  | .c k r, L, j, i + 1, k', h => by
    rw [ordK_c, List.getElem?_cons_succ]
    have := ordK_at r L (j + 1) i k' (by simpa [Dt.kids] using h)
    rw [this, show j + 1 + i = j + (i + 1) by omega]
theorem ordK_len : ∀ (u : Dt) (L : Lns) (j : Nat), (ordK u L j).length = u.len
  | .x, _, _ => by simp [ordK, Dt.len]
  | .o, _, _ => by simp [ordK, Dt.len]
  | .c k r, L, j => by
    rw [ordK_c, List.length_cons, ordK_len r]
    rfl
/-- the order of child i -/
def ordC (u : Dt) (L : Lns) (i : Nat) : List Int := (ordK u L 0).getD i []
theorem ordC_at {u k : Dt} {L : Lns} {i : Nat} (h : u.kids[i]? = some k) : ordC u L i = ord k (sh i L) := by
  unfold ordC
  rw [List.getD_eq_getElem?_getD, ordK_at u L 0 i k h, Nat.zero_add]
  rfl
theorem ord_leaf {u : Dt} {L : Lns} (h : u.len = 0) : ord u L = its (L []) := if_pos h
theorem ord_fork {u : Dt} {L : Lns} (h : u.len ≠ 0) : ord u L = mrg (chs (L [])) (ordC u L) := if_neg h
theorem ord_length (u : Dt) (L : Lns) : (ord u L).length = (L []).length := by
  by_cases h : u.len = 0
  · rw [ord_leaf h]
    exact List.length_map ..
  · rw [ord_fork h, mrg_len]
    exact List.length_map ..
theorem kid_of {u : Dt} {j : Nat} (h : j < u.len) : ∃ k, u.kids[j]? = some k := ⟨_, List.getElem?_eq_getElem (by rw [Dt.kids_len]; exact h)⟩
theorem kid_lt {u k : Dt} {j : Nat} (h : u.kids[j]? = some k) : j < u.len := by
  rw [← Dt.kids_len]
  exact (List.getElem?_eq_some_iff.mp h).1
theorem sub_kid {u k : Dt} {j : Nat} (h : u.kids[j]? = some k) (q : Ad) : sub u (j :: q) = sub k q := by
  have h1 := sub_one u j
  rw [h] at h1
  exact (sub_app u [j] k h1 q).1
theorem sub_len {u w : Dt} {j : Nat} {q : Ad} (h : sub u (j :: q) = some w) : ∃ k, u.kids[j]? = some k ∧ sub k q = some w := by
  obtain ⟨k, hk⟩ := sub_pre u [j] q w h
  have h1 := sub_one u j
  rw [h1] at hk
  exact ⟨k, hk, by rw [← sub_kid hk]; exact h⟩
/-- each fork's line has its children as often as these have entries -/
structure Con (u : Dt) (L : Lns) : Prop where
  it : ∀ q w, sub u q = some w → w.len ≠ 0 → ∀ e ∈ L q, ∃ j, j < w.len ∧ e.2 = (j : Nat)
  ct : ∀ q w j, sub u q = some w → j < w.len → (chs (L q)).count j = (L (q ++ [j])).length
theorem Con.kid {u k : Dt} {L : Lns} (c : Con u L) {j : Nat} (h : u.kids[j]? = some k) : Con k (sh j L) :=
  ⟨fun q w hw => c.it (j :: q) w (by rw [sub_kid h]; exact hw), fun q w i hw hi => c.ct (j :: q) w i (by rw [sub_kid h]; exact hw) hi⟩
theorem Con.chs_lt {u : Dt} {L : Lns} (c : Con u L) (h : u.len ≠ 0) : ∀ j ∈ chs (L []), j < u.len := fun j hj => by
  obtain ⟨e, he, rfl⟩ := List.mem_map.mp hj
  obtain ⟨i, hi, ei⟩ := c.it [] u (sub_nil u) h e he
  rw [ei]
  exact hi
theorem Con.enough {u : Dt} {L : Lns} (c : Con u L) (h : u.len ≠ 0) : Enough (chs (L [])) (ordC u L) := fun j => by
  by_cases hj : j < u.len
  · obtain ⟨k, hk⟩ := kid_of hj
    rw [ordC_at hk, ord_length, c.ct [] u j (sub_nil u) hj]
    exact Nat.le_refl _
  · rw [List.count_eq_zero.mpr fun z => hj (c.chs_lt h j z)]
    exact Nat.zero_le _
theorem Con.exact {u : Dt} {L : Lns} (c : Con u L) {j : Nat} (hj : j < u.len) : (chs (L [])).count j = (ordC u L j).length := by
  obtain ⟨k, hk⟩ := kid_of hj
  rw [ordC_at hk, ord_length, c.ct [] u j (sub_nil u) hj]
  rfl
theorem kid_sz : ∀ {u k : Dt} {j : Nat}, u.kids[j]? = some k → k.size + 1 ≤ u.size
  | .x, _, _, h => by simp [Dt.kids] at h
  | .o, _, _, h => by simp [Dt.kids] at h
  | .c k r, k', 0, h => by
    have e : k = k' := by simpa [Dt.kids] using h
    subst e
    show k.size + 1 ≤ k.size + r.size + 1
    omega
  | .c k r, k', j + 1, h => by
    have := kid_sz (u := r) (k := k') (j := j) (by simpa [Dt.kids] using h)
    show k'.size + 1 ≤ k.size + r.size + 1
    omega
theorem ord_mem : ∀ (d : Nat) (u : Dt) (L : Lns), u.size ≤ d → Con u L → ∀ x ∈ ord u L, ∃ p w, sub u p = some w ∧ w.len = 0 ∧ x ∈ its (L p)
  | 0, u, L, hd, _, x, h => by cases u <;> simp [Dt.size] at hd
  | d + 1, u, L, hd, c, x, h => by
    by_cases hl : u.len = 0
    · rw [ord_leaf hl] at h
      exact ⟨[], u, sub_nil u, hl, h⟩
    · rw [ord_fork hl] at h
      obtain ⟨j, hj, hx⟩ := mrg_mem _ _ (c.enough hl) x h
      obtain ⟨k, hk⟩ := kid_of (c.chs_lt hl j hj)
      rw [ordC_at hk] at hx
      obtain ⟨p, w, h1, h2, h3⟩ := ord_mem d k (sh j L) (by have := kid_sz hk; omega) (c.kid hk) x hx
      exact ⟨j :: p, w, by rw [sub_kid hk]; exact h1, h2, h3⟩
/-- what of the order lies beneath q is the order of q -/
theorem ord_filter (P : Int → Bool) : ∀ (q : Ad) (u v : Dt) (L : Lns), sub u q = some v → Con u L → (∀ p w, sub u p = some w → w.len = 0 → ∀ x ∈ its (L p), P x = decide (q <+: p)) → (ord u L).filter P = ord v fun r => L (q ++ r)
  | [], u, v, L, hq, c, h => by
    rw [sub_nil] at hq
    obtain rfl := Option.some.inj hq
    refine List.filter_eq_self.mpr fun x hx => ?_
    obtain ⟨p, w, h1, h2, h3⟩ := ord_mem _ u L (Nat.le_refl _) c x hx
    rw [h p w h1 h2 x h3]
    exact decide_eq_true (List.nil_prefix ..)
  | j :: q, u, v, L, hq, c, h => by
    obtain ⟨k, hk, hq2⟩ := sub_len hq
    have hj := kid_lt hk
    have hl : u.len ≠ 0 := by omega
    have ih := ord_filter P q k v (sh j L) hq2 (c.kid hk) fun p w h1 h2 x hx => by
      rw [h (j :: p) w (by rw [sub_kid hk]; exact h1) h2 x hx]
      congr 1
      simp
    have hin : ∀ i, i < u.len → ∀ x ∈ ordC u L i, ∃ p, P x = decide ((j :: q) <+: (i :: p)) := fun i hi x hx => by
      obtain ⟨k', hk'⟩ := kid_of hi
      rw [ordC_at hk'] at hx
      obtain ⟨p, w, h1, h2, h3⟩ := ord_mem _ k' (sh i L) (Nat.le_refl _) (c.kid hk') x hx
      exact ⟨p, h (i :: p) w (by rw [sub_kid hk']; exact h1) h2 x h3⟩
    rw [ord_fork hl]
    have e : (mrg (chs (L [])) (ordC u L)).filter P = (ordC u L j).filter P := by
      have g := mrg_filter2 P (chs (L [])) (ordC u L) j (c.enough hl) (fun i hi e x hx => by
        obtain ⟨p, hp⟩ := hin i (c.chs_lt hl i hi) x hx
        rw [hp]
        refine decide_eq_false fun z => ?_
        rw [List.cons_prefix_cons] at z
        exact e z.1.symm) 
      rw [g, c.exact hj, List.take_length]
    rw [e, ordC_at hk, ih]
    rfl
/-! departures -/
structure Dep (u : Dt) (L : Lns) (n : Int) (p : Ad) (rs : List (List Int)) : Prop where
  lf : ∃ w, sub u p = some w ∧ w.len = 0
  hd : ∀ k j, p[k]? = some j → ∃ r t, L (p.take k) = (r, ((j : Nat) : Int)) :: t ∧ rs[k]? = some r
  la : ∃ r t, L p = (r, n) :: t ∧ rs[p.length]? = some r
  len : rs.length = p.length + 1
def cutL (p : Ad) (L : Lns) : Lns := fun q => if q <+: p then (L q).tail else L q
theorem cutL_nil (p : Ad) (L : Lns) : cutL p L [] = (L []).tail := if_pos (List.nil_prefix ..)
theorem sh_cut (j : Nat) (p : Ad) (L : Lns) : sh j (cutL (j :: p) L) = cutL p (sh j L) := by
  funext q
  unfold sh cutL
  by_cases h : q <+: p
  · rw [if_pos h, if_pos (by rw [List.cons_prefix_cons]; exact ⟨rfl, h⟩)]
  · rw [if_neg h, if_neg (by rw [List.cons_prefix_cons]; exact fun z => h z.2)]
theorem sh_cut_ne {i j : Nat} (h : i ≠ j) (p : Ad) (L : Lns) : sh i (cutL (j :: p) L) = sh i L := by
  funext q
  unfold sh cutL
  rw [if_neg (by rw [List.cons_prefix_cons]; exact fun z => h z.1)]
theorem Dep.kid {u k : Dt} {L : Lns} {n : Int} {j : Nat} {p : Ad} {r : List Int} {rs : List (List Int)} (d : Dep u L n (j :: p) (r :: rs)) (h : u.kids[j]? = some k) : Dep k (sh j L) n p rs := by
  obtain ⟨⟨w, h1, h2⟩, h3, ⟨r', t, h4, h5⟩, h6⟩ := d
  refine ⟨⟨w, by rw [← sub_kid h]; exact h1, h2⟩, fun i j' hj' => ?_, ⟨r', t, h4, by simpa using h5⟩, by simpa using h6⟩
  obtain ⟨r2, t2, e1, e2⟩ := h3 (i + 1) j' (by simpa using hj')
  exact ⟨r2, t2, by simpa [sh] using e1, by simpa using e2⟩
theorem dep_ord : ∀ (p : Ad) (u : Dt) (L : Lns) (n : Int) (rs : List (List Int)), Con u L → Dep u L n p rs → ord u L = n :: ord u (cutL p L)
  | [], u, L, n, rs, c, d => by
    obtain ⟨⟨w, h1, h2⟩, h3, ⟨r, t, h4, h5⟩, h6⟩ := d
    rw [sub_nil] at h1
    obtain rfl := Option.some.inj h1
    rw [ord_leaf h2, ord_leaf h2, cutL_nil, h4]
    rfl
  | j :: p, u, L, n, [], c, d => by
    have := d.len
    simp at this
  | j :: p, u, L, n, r :: rs, c, d => by
    obtain ⟨w, h1, h2⟩ := d.lf
    obtain ⟨k, hk, _⟩ := sub_len h1
    have hl : u.len ≠ 0 := by have := kid_lt hk; omega
    have ih := dep_ord p k (sh j L) n rs (c.kid hk) (d.kid hk)
    obtain ⟨r0, t, h4, _⟩ := d.hd 0 j rfl
    have h4' : L [] = (r0, ((j : Nat) : Int)) :: t := h4
    rw [ord_fork hl, ord_fork hl, cutL_nil, h4', List.tail_cons]
    have e0 : chs ((r0, ((j : Nat) : Int)) :: t) = j :: chs t := rfl
    rw [e0]
    show (ordC u L j).headD 0 :: mrg (chs t) (dropAt (ordC u L) j) = _
    rw [ordC_at hk, ih]
    refine congrArg (n :: ·) (mrg_congr _ _ _ fun i hi => ?_)
    have hi2 : i < u.len := c.chs_lt hl i (by rw [h4', e0]; exact List.mem_cons_of_mem _ hi)
    obtain ⟨k', hk'⟩ := kid_of hi2
    unfold dropAt
    by_cases e : i = j
    · subst e
      rw [if_pos rfl, ordC_at hk, ordC_at hk, ih, sh_cut]
      rfl
    · rw [if_neg e, ordC_at hk', ordC_at hk', sh_cut_ne e]
theorem dep_con {u : Dt} {L : Lns} {n : Int} {p : Ad} {rs : List (List Int)} (c : Con u L) (d : Dep u L n p rs) : Con u (cutL p L) := by
  refine ⟨fun q w hq hw e he => ?_, fun q w j hq hj => ?_⟩
  · unfold cutL at he
    by_cases h : q <+: p
    · rw [if_pos h] at he
      exact c.it q w hq hw e (List.mem_of_mem_tail he)
    · rw [if_neg h] at he
      exact c.it q w hq hw e he
  · have h0 := c.ct q w j hq hj
    obtain ⟨w', h1, h2⟩ := d.lf
    unfold cutL
    by_cases h : q <+: p
    · rw [if_pos h]
      obtain ⟨s, rfl⟩ := h
      cases s with
      | nil =>
        rw [List.append_nil] at h1
        rw [h1] at hq
        obtain rfl := Option.some.inj hq
        omega
      | cons i s =>
        obtain ⟨r, t, e1, _⟩ := d.hd q.length i (by simp)
        rw [List.take_left] at e1
        rw [e1] at h0 ⊢
        have e2 : chs ((r, ((i : Nat) : Int)) :: t) = i :: chs t := rfl
        rw [e2] at h0
        rw [List.tail_cons]
        by_cases e : i = j
        · subst e
          rw [List.count_cons_self] at h0
          rw [if_pos (by rw [List.prefix_append_right_inj]; exact ⟨s, rfl⟩), List.length_tail]
          omega
        · rw [List.count_cons_of_ne e] at h0
          rw [if_neg (by
            rw [List.prefix_append_right_inj, List.cons_prefix_cons]
            exact fun z => e z.1.symm)]
          exact h0
    · rw [if_neg h, if_neg (fun z => h ((List.prefix_append ..).trans z))]
      exact h0
theorem dep_ex : ∀ (d : Nat) (u : Dt) (L : Lns), u.size ≤ d → Con u L → L [] ≠ [] → ∃ n p rs, Dep u L n p rs
  | 0, u, L, hd, _, h => by cases u <;> simp [Dt.size] at hd
  | d + 1, u, L, hd, c, h => by
    cases e : L [] with
    | nil => exact absurd e h
    | cons z t =>
      obtain ⟨r, n⟩ := z
      by_cases hl : u.len = 0
      · exact ⟨n, [], [r], ⟨u, sub_nil u, hl⟩, fun k j hk => by simp at hk, ⟨r, t, e, rfl⟩, rfl⟩
      · obtain ⟨j, hj, ej⟩ := c.it [] u (sub_nil u) hl (r, n) (by rw [e]; exact List.mem_cons_self ..)
        obtain ⟨k, hk⟩ := kid_of hj
        have ej' : n = (j : Nat) := ej
        have hne : sh j L [] ≠ [] := fun z => by
          have := c.ct [] u j (sub_nil u) hj
          rw [e, ej', show L ([] ++ [j]) = [] from z] at this
          have e2 : chs ((r, ((j : Nat) : Int)) :: t) = j :: chs t := rfl
          rw [e2, List.count_cons_self] at this
          exact absurd this (by simp)
        obtain ⟨n', p, rs, D⟩ := dep_ex d k (sh j L) (by have := kid_sz hk; omega) (c.kid hk) hne
        obtain ⟨⟨w, h1, h2⟩, h3, ⟨r', t', h4, h5⟩, h6⟩ := D
        refine ⟨n', j :: p, r :: rs, ⟨w, by rw [sub_kid hk]; exact h1, h2⟩, fun i j' hj' => ?_, ⟨r', t', h4, by simpa using h5⟩, by simp [h6]⟩
        cases i with
        | zero =>
          have : j = j' := by simpa using hj'
          subst this
          exact ⟨r, t, by rw [← ej']; exact e, rfl⟩
        | succ i =>
          obtain ⟨r2, t2, e1, e2⟩ := h3 i j' (by simpa using hj')
          exact ⟨r2, t2, e1, by simpa using e2⟩
/-! pushes -/
def insE (l : List En) (e : En) : List En := l.takeWhile (fun x => !HT.lexLt e.1 x.1) ++ e :: l.dropWhile (fun x => !HT.lexLt e.1 x.1)
def itm (p : Ad) (n : Int) (k : Nat) : Int := match p[k]? with | some j => (j : Nat) | none => n
def pshL (p : Ad) (rs : List (List Int)) (n : Int) (L : Lns) : Lns := fun q => if q <+: p then insE (L q) (rs.getD q.length [], itm p n q.length) else L q
theorem insE_perm (l : List En) (e : En) : (insE l e).Perm (e :: l) := by
  unfold insE
  refine List.perm_middle.trans ?_
  rw [List.takeWhile_append_dropWhile]
theorem insE_end {l : List En} {e : En} (h : ∀ x ∈ l, HT.lexLt e.1 x.1 = false) : insE l e = l ++ [e] := by
  unfold insE
  have h1 : ∀ m : List En, (∀ x ∈ m, HT.lexLt e.1 x.1 = false) → m.takeWhile (fun x => !HT.lexLt e.1 x.1) = m ∧ m.dropWhile (fun x => !HT.lexLt e.1 x.1) = [] := by
    intro m
    induction m with
    | nil => exact fun _ => ⟨rfl, rfl⟩
    | cons y m ih =>
      intro hm
      have hy : (!HT.lexLt e.1 y.1) = true := by rw [hm y (List.mem_cons_self ..)]; rfl
      obtain ⟨a1, a2⟩ := ih fun z hz => hm z (List.mem_cons_of_mem _ hz)
      rw [List.takeWhile_cons, List.dropWhile_cons, if_pos hy, if_pos hy, a1, a2]
      exact ⟨rfl, rfl⟩
  rw [(h1 l h).1, (h1 l h).2]
theorem pshL_con {u w : Dt} {L : Lns} {p : Ad} {rs : List (List Int)} {n : Int} (c : Con u L) (h : sub u p = some w) (hw : w.len = 0) : Con u (pshL p rs n L) := by
  refine ⟨fun q w' hq hl e he => ?_, fun q w' j hq hj => ?_⟩
  · unfold pshL at he
    by_cases hp : q <+: p
    · rw [if_pos hp] at he
      rcases List.mem_cons.mp ((insE_perm _ _).mem_iff.mp he) with rfl | he
      · obtain ⟨s, rfl⟩ := hp
        cases s with
        | nil =>
          rw [List.append_nil] at h
          rw [h] at hq
          obtain rfl := Option.some.inj hq
          exact absurd hw hl
        | cons i s =>
          have e1 : itm (q ++ i :: s) n q.length = (i : Nat) := by
            unfold itm
            rw [List.getElem?_append_right (Nat.le_refl _), Nat.sub_self]
            rfl
          have h2 := (sub_app u q w' hq (i :: s)).1
          rw [h] at h2
          obtain ⟨k, hk, _⟩ := sub_len h2.symm
          exact ⟨i, kid_lt hk, e1⟩
      · exact c.it q w' hq hl e he
    · rw [if_neg hp] at he
      exact c.it q w' hq hl e he
  · have h0 := c.ct q w' j hq hj
    unfold pshL
    by_cases hp : q <+: p
    · rw [if_pos hp]
      have hc : (chs (insE (L q) (rs.getD q.length [], itm p n q.length))).count j = ((itm p n q.length).toNat :: chs (L q)).count j := (((insE_perm _ _).map _).count_eq j)
      rw [hc]
      obtain ⟨s, rfl⟩ := hp
      cases s with
      | nil =>
        rw [List.append_nil] at h
        rw [h] at hq
        obtain rfl := Option.some.inj hq
        omega
      | cons i s =>
        have e1 : itm (q ++ i :: s) n q.length = (i : Nat) := by
          unfold itm
          rw [List.getElem?_append_right (Nat.le_refl _), Nat.sub_self]
          rfl
        rw [e1, Int.toNat_natCast]
        by_cases e : i = j
        · subst e
          rw [List.count_cons_self, if_pos (by rw [List.prefix_append_right_inj]; exact ⟨s, rfl⟩), (insE_perm _ _).length_eq, List.length_cons, h0]
        · rw [List.count_cons_of_ne e, if_neg (by
            rw [List.prefix_append_right_inj, List.cons_prefix_cons]
            exact fun z => e z.1.symm)]
          exact h0
    · rw [if_neg hp, if_neg (fun z => hp ((List.prefix_append ..).trans z))]
      exact h0
theorem sh_psh (j : Nat) (p : Ad) (r : List Int) (rs : List (List Int)) (n : Int) (L : Lns) : sh j (pshL (j :: p) (r :: rs) n L) = pshL p rs n (sh j L) := by
  funext q
  unfold sh pshL
  by_cases h : q <+: p
  · rw [if_pos h, if_pos (by rw [List.cons_prefix_cons]; exact ⟨rfl, h⟩)]
    rfl
  · rw [if_neg h, if_neg (by rw [List.cons_prefix_cons]; exact fun z => h z.2)]
theorem sh_psh_ne {i j : Nat} (h : i ≠ j) (p : Ad) (rs : List (List Int)) (n : Int) (L : Lns) : sh i (pshL (j :: p) rs n L) = sh i L := by
  funext q
  unfold sh pshL
  rw [if_neg (by rw [List.cons_prefix_cons]; exact fun z => h z.1)]
/-- a push behind all others comes last -/
theorem ord_last : ∀ (p : Ad) (u w : Dt) (L : Lns) (rs : List (List Int)) (n : Int), Con u L → sub u p = some w → w.len = 0 → rs.length = p.length + 1 → (∀ q, q <+: p → ∀ x ∈ L q, HT.lexLt (rs.getD q.length []) x.1 = false) → ord u (pshL p rs n L) = ord u L ++ [n]
  | _, u, w, L, [], n, c, h, hw, hr, hx => by simp at hr
  | [], u, w, L, r :: rs, n, c, h, hw, hr, hx => by
    rw [sub_nil] at h
    obtain rfl := Option.some.inj h
    rw [ord_leaf hw, ord_leaf hw]
    unfold pshL
    rw [if_pos (List.nil_prefix ..), insE_end (hx [] (List.nil_prefix ..))]
    show its (L [] ++ [(r, n)]) = _
    unfold its
    rw [List.map_append]
    rfl
  | j :: p, u, w, L, r :: rs, n, c, h, hw, hr, hx => by
    obtain ⟨k, hk, hk2⟩ := sub_len h
    have hj := kid_lt hk
    have hl : u.len ≠ 0 := by omega
    have ih := ord_last p k w (sh j L) rs n (c.kid hk) hk2 hw (by simpa using hr) fun q hq x hx2 => by
      have := hx (j :: q) (by rw [List.cons_prefix_cons]; exact ⟨rfl, hq⟩) x hx2
      simpa using this
    rw [ord_fork hl, ord_fork hl]
    have e1 : pshL (j :: p) (r :: rs) n L [] = L [] ++ [(r, ((j : Nat) : Int))] := by
      unfold pshL
      rw [if_pos (List.nil_prefix ..), insE_end (hx [] (List.nil_prefix ..))]
      rfl
    have e2 : chs (L [] ++ [(r, ((j : Nat) : Int))]) = chs (L []) ++ [j] := by
      unfold chs
      rw [List.map_append]
      rfl
    rw [e1, e2, ← mrg_snoc n (chs (L [])) (ordC u L) j (c.enough hl) (c.exact hj)]
    refine mrg_congr _ _ _ fun i hi => ?_
    have hi2 : i < u.len := by
      rcases List.mem_append.mp hi with hi | hi
      · exact c.chs_lt hl i hi
      · rw [List.mem_singleton.mp hi]
        exact hj
    obtain ⟨k', hk'⟩ := kid_of hi2
    by_cases e : i = j
    · subst e
      rw [if_pos rfl, ordC_at hk, ordC_at hk, sh_psh, ih]
    · rw [if_neg e, ordC_at hk', ordC_at hk', sh_psh_ne e]
end K65
set_option Elab.async false
set_option linter.all false
set_option maxRecDepth 100000
set_option maxHeartbeats 4000000
namespace K65
open PySem PySem.Spec PyProof.Rows L2 Dt
/-! ### the heap but for some mutable objects -/
def offS (S : List Addr) (H : Hp) : Hp := fun b => if b ∈ S then none else H b
theorem offS_in {S : List Addr} {H : Hp} {b : Addr} (h : b ∈ S) : offS S H b = none := if_pos h
theorem offS_ne {S : List Addr} {H : Hp} {b : Addr} (h : b ∉ S) : offS S H b = H b := if_neg h
theorem offS_some {S : List Addr} {H : Hp} {b : Addr} {u : HO} (h : offS S H b = some u) : b ∉ S ∧ H b = some u := by
  by_cases z : b ∈ S
  · rw [offS_in z] at h
    exact nomatch h
  · rw [offS_ne z] at h
    exact ⟨z, h⟩
theorem offS_same {S : List Addr} {H : Hp} : Same (offS S H) H := fun b u h => (offS_some h).2
/-- only what lies at S may have changed -/
structure GoS (S : List Addr) (H H' : Hp) : Prop where
  s : Same (offS S H) (offS S H')
  k : ∀ y, H y ≠ none → H' y ≠ none
theorem GoS.refl {S : List Addr} {H : Hp} : GoS S H H := ⟨fun _ _ h => h, fun _ h => h⟩
theorem GoS.trans {S : List Addr} {H H1 H2 : Hp} (a : GoS S H H1) (b : GoS S H1 H2) : GoS S H H2 := ⟨fun y u h => b.s y u (a.s y u h), fun y h => b.k y (a.k y h)⟩
theorem same_al {H H' : Hp} (e : Same H H') {y : Addr} (h : H y ≠ none) : H' y ≠ none := by
  cases z : H y with
  | none => exact absurd z h
  | some u =>
    rw [e y u z]
    exact fun q => nomatch q
theorem GoS.of {S : List Addr} {H H' : Hp} (e : Same H H') : GoS S H H' := ⟨fun y u h => by
  obtain ⟨h1, h2⟩ := offS_some h
  rw [offS_ne h1]
  exact e y u h2, fun y h => same_al e h⟩
theorem GoS.at {S : List Addr} {H H' : Hp} {y : Addr} {u : HO} (g : GoS S H H') (h : H y = some u) (n : y ∉ S) : H' y = some u := by
  have := g.s y u (by rw [offS_ne n]; exact h)
  rw [offS_ne n] at this
  exact this
theorem GoS.wide {S S' : List Addr} {H H' : Hp} (g : GoS S H H') (h : ∀ y ∈ S, y ∈ S') : GoS S' H H' := ⟨fun y u e => by
  obtain ⟨h1, h2⟩ := offS_some e
  rw [offS_ne h1]
  exact g.at h2 fun z => h1 (h y z), g.k⟩
theorem GoS.upd {S : List Addr} {H H' : Hp} {p : Addr} {v : HO} (g : GoS S H H') (h : p ∈ S) : GoS S H (L2.upd H' p v) := ⟨fun y u e => by
  obtain ⟨h1, h2⟩ := offS_some (g.s y u e)
  rw [offS_ne h1, upd_ne (fun z => h1 (by rw [z]; exact h))]
  exact h2, fun y hy => by
  by_cases z : y = p
  · rw [z, upd_same]
    exact fun q => nomatch q
  · rw [upd_ne z]
    exact g.k y hy⟩
theorem GoS.new {S : List Addr} {H H' : Hp} {p : Addr} {v : HO} (g : GoS S H H') (h : H' p = none) : GoS S H (L2.upd H' p v) := g.trans (GoS.of (same_new h))
theorem GoS.free {S : List Addr} {H H' : Hp} {p : Addr} (g : GoS S H H') (h : H' p = none) : H p = none := by
  cases e : H p with
  | none => rfl
  | some u => exact absurd h (g.k p (by rw [e]; exact fun q => nomatch q))
/-- mutable objects that are made newly -/
theorem offS_grow {S N : List Addr} {H0 H : Hp} (e : Same H0 H) (h : ∀ y ∈ N, H0 y = none) : Same (offS S H0) (offS (N ++ S) H) := fun y u g => by
  obtain ⟨h1, h2⟩ := offS_some g
  rw [offS_ne]
  · exact e y u h2
  · intro z
    rcases List.mem_append.mp z with z | z
    · rw [h y z] at h2
      exact nomatch h2
    · exact h1 z
/-! ### entries as data -/
def enD (e : En) : PyData := .tuple [intsD e.1, .int e.2]
theorem rank_eq {d : PyData} (h : rankOf d = true) : ∃ ns, d = intsD ns := by
  cases d with
  | tuple ds =>
    have h' : (decide (ds.length ≤ 8) && ds.all partB) = true := h
    rw [Bool.and_eq_true] at h'
    have g : ∀ l : List PyData, l.all partB = true → ∃ ns : List Int, l = ns.map PyData.int := by
      intro l
      induction l with
      | nil => exact fun _ => ⟨[], rfl⟩
      | cons d l ih =>
        intro hl
        rw [List.all_cons, Bool.and_eq_true] at hl
        obtain ⟨ns, rfl⟩ := ih hl.2
        cases d with
        | int i => exact ⟨i :: ns, rfl⟩
        | none => exact nomatch hl.1
        | bool _ => exact nomatch hl.1
        | str _ => exact nomatch hl.1
        | list _ => exact nomatch hl.1
        | tuple _ => exact nomatch hl.1
        | dict _ => exact nomatch hl.1
    obtain ⟨ns, rfl⟩ := g ds h'.2
    exact ⟨ns, rfl⟩
  | _ => exact nomatch h
theorem rkInts_ints (ns : List Int) : rkInts (intsD ns) = ns := by
  show (ns.map PyData.int).filterMap numOf = ns
  induction ns with
  | nil => rfl
  | cons i ns ih =>
    show i :: (ns.map PyData.int).filterMap numOf = i :: ns
    rw [ih]
theorem rksOf_en (l : List En) : rksOf (l.map enD) = l.map (·.1) := by
  unfold rksOf
  rw [List.map_map]
  refine List.map_congr_left fun e _ => ?_
  show rkInts (intsD e.1) = e.1
  exact rkInts_ints e.1
def RkOK (l : List En) : Prop := ∀ e ∈ l, rankOf (intsD e.1) = true
def Asc1 (l : List En) : Prop := (l.map (·.1)).Pairwise fun p q => HT.lexLt q p = false
theorem line_en {l : List En} (h : RkOK l) (g : Asc1 l) : lineOf (.tuple (l.map enD)) = true := by
  refine line_of_facts _ [] (fun d hd => ?_) ?_ fun r _ => lex_nil r
  · obtain ⟨e, he, rfl⟩ := List.mem_map.mp hd
    exact ⟨_, _, rfl, h e he⟩
  · rw [rksOf_en]
    exact g
theorem take_insE {l : List En} {e : En} (g : Asc1 l) {p : Nat} (h : PlaceIs (l.map (·.1)) e.1 p) : insE l e = l.take p ++ e :: l.drop p := by
  induction l generalizing p with
  | nil =>
    have := h.le
    obtain rfl : p = 0 := by simpa using this
    rfl
  | cons y l ih =>
    unfold Asc1 at g
    rw [List.map_cons] at g h
    obtain ⟨g1, g2⟩ := List.pairwise_cons.mp g
    unfold insE
    cases p with
    | zero =>
      have hy := h.hi 0 y.1 (Nat.le_refl _) rfl
      have hn : (!HT.lexLt e.1 y.1) = false := by rw [hy]; rfl
      rw [List.takeWhile_cons, List.dropWhile_cons, if_neg (by rw [hn]; decide), if_neg (by rw [hn]; decide)]
      rfl
    | succ p =>
      have hy := h.lo 0 y.1 (Nat.zero_lt_succ _) rfl
      have hn : (!HT.lexLt e.1 y.1) = true := by rw [hy]; rfl
      have h2 : PlaceIs (l.map (·.1)) e.1 p := ⟨by have := h.le; simpa using this, fun i s hi hs => h.lo (i + 1) s (by omega) (by simpa using hs), fun i s hi hs => h.hi (i + 1) s (by omega) (by simpa using hs)⟩
      have := ih g2 h2
      unfold insE at this
      rw [List.takeWhile_cons, List.dropWhile_cons, if_pos hn, if_pos hn, List.cons_append, this]
      rfl
theorem insE_rk {l : List En} {e : En} (h : RkOK l) (he : rankOf (intsD e.1) = true) : RkOK (insE l e) := fun y hy => by
  rcases List.mem_cons.mp ((insE_perm l e).mem_iff.mp hy) with rfl | hy
  · exact he
  · exact h y hy
theorem insE_asc {l : List En} {e : En} (g : Asc1 l) : Asc1 (insE l e) := by
  induction l with
  | nil => exact List.pairwise_singleton ..
  | cons y l ih =>
    unfold Asc1 at g ih
    rw [List.map_cons] at g
    obtain ⟨g1, g2⟩ := List.pairwise_cons.mp g
    have e1 : insE (y :: l) e = if HT.lexLt e.1 y.1 = true then e :: y :: l else y :: insE l e := by
      unfold insE
      rw [List.takeWhile_cons, List.dropWhile_cons]
      cases hc : HT.lexLt e.1 y.1 with
      | true => rfl
      | false => rfl
    rw [e1]
    unfold Asc1
    cases hc : HT.lexLt e.1 y.1 with
    | true =>
      rw [if_pos rfl, List.map_cons, List.map_cons]
      refine List.pairwise_cons.mpr ⟨fun s hs => ?_, List.pairwise_cons.mpr ⟨g1, g2⟩⟩
      rcases List.mem_cons.mp hs with rfl | hs
      · exact NtL.lex_asym _ _ hc
      · cases hq : HT.lexLt s e.1 with
        | false => rfl
        | true =>
          have h3 := g1 s hs
          cases hz : HT.lexLt s y.1 with
          | true => rw [hz] at h3; exact nomatch h3
          | false =>
            have z1 : HT.lexLt e.1 y.1 = false := by
              have z2 := NtL.lex_asym _ _ hq
              exact NtL.lex_tr y.1 s e.1 h3 z2
            rw [hc] at z1
            exact nomatch z1
    | false =>
      rw [if_neg (by decide), List.map_cons]
      refine List.pairwise_cons.mpr ⟨fun s hs => ?_, ih g2⟩
      obtain ⟨z, hz, rfl⟩ := List.mem_map.mp hs
      rcases List.mem_cons.mp ((insE_perm l e).mem_iff.mp hz) with rfl | hz
      · exact hc
      · exact g1 _ (List.mem_map_of_mem hz)
theorem lex_refl0 : ∀ l : List Int, HT.lexLt l l = false
  | [] => rfl
  | i :: l => by
    rw [HT.lexLt_cons, if_pos rfl]
    exact lex_refl0 l
theorem dps_cut {K : PySem.W.Frag} {H : Hp} : ∀ {xs : List V} {ds : List PyData} (n : Nat), DpAll K H xs ds → DpAll K H (xs.take n) (ds.take n) ∧ DpAll K H (xs.drop n) (ds.drop n)
  | _, _, 0, h => ⟨.nil, h⟩
  | _, _, _ + 1, .nil => ⟨.nil, .nil⟩
  | _, _, n + 1, .cons h t => ⟨.cons h (dps_cut n t).1, (dps_cut n t).2⟩
theorem dps_app {K : PySem.W.Frag} {H : Hp} : ∀ {xs ys : List V} {ds es : List PyData}, DpAll K H xs ds → DpAll K H ys es → DpAll K H (xs ++ ys) (ds ++ es)
  | _, _, _, _, .nil, b => b
  | _, _, _, _, .cons h t, b => .cons h (dps_app t b)
/-- an entry more -/
theorem dps_ins {K : PySem.W.Frag} {H : Hp} {xs : List V} {l : List En} {v : V} {e : En} {p : Nat} (h : DpAll K H xs (l.map enD)) (hv : Dp K H v (enD e)) (he : insE l e = l.take p ++ e :: l.drop p) : DpAll K H (xs.take p ++ [v] ++ xs.drop p) ((insE l e).map enD) := by
  rw [he, List.map_append, List.map_cons, List.map_take, List.map_drop, List.append_assoc]
  exact dps_app (dps_cut p h).1 (.cons hv (dps_cut p h).2)
/-! ### a standing -/
structure StE (K : PySem.W.Frag) (C CS : Addr) (S : List Addr) (H : Hp) (a ta la sd : Addr) (Ls : List Addr) (T : Dt) (L : Lns) (kv : List (Key × V)) : Prop where
  sub : ∀ y ∈ sd :: Ls, y ∈ S
  al : ∀ y ∈ S, H y ≠ none
  nd : (sd :: Ls).Nodup
  ob : ∃ dx, offS S H a = some (.ins CS dx (stS ta la sd))
  tr : Tree K (offS S H) C ta T
  ln : offS S H la = some (.lst (Ls.map V.ref))
  len : Ls.length = T.nodes
  li : ∀ q ∈ ad T, ∃ l xs, Ls[T.idx q]? = some l ∧ H l = some (.lst xs) ∧ DpAll K (offS S H) xs ((L q).map enD)
  se : H sd = some (.dK kv)
  rk : ∀ q, RkOK (L q)
  pw : ∀ q, Asc1 (L q)
section
variable {K : PySem.W.Frag} {C CS : Addr} {S : List Addr} {H H' : Hp} {a ta la sd : Addr} {Ls : List Addr} {T : Dt} {L : Lns} {kv : List (Key × V)}
theorem StE.obj (s : StE K C CS S H a ta la sd Ls T L kv) : ∃ dx, H a = some (.ins CS dx (stS ta la sd)) := by
  obtain ⟨dx, h⟩ := s.ob
  exact ⟨dx, (offS_some h).2⟩
theorem StE.tree (s : StE K C CS S H a ta la sd Ls T L kv) : Tree K H C ta T := s.tr.same offS_same
theorem StE.lst (s : StE K C CS S H a ta la sd Ls T L kv) : H la = some (.lst (Ls.map V.ref)) := (offS_some s.ln).2
theorem StE.keep {M : List Addr} (s : StE K C CS S H a ta la sd Ls T L kv) (g : GoS M H H') (h : ∀ y ∈ M, y ∈ S) (n : ∀ y ∈ M, y ∉ sd :: Ls) : StE K C CS S H' a ta la sd Ls T L kv := by
  have gs : Same (offS S H) (offS S H') := (g.wide h).s
  obtain ⟨dx, ob⟩ := s.ob
  refine ⟨s.sub, fun y hy => g.k y (s.al y hy), s.nd, ⟨dx, gs _ _ ob⟩, s.tr.same gs, gs _ _ s.ln, s.len, fun q hq => ?_, g.at s.se fun z => n sd z (List.mem_cons_self ..), s.rk, s.pw⟩
  obtain ⟨l, xs, h1, h2, h3⟩ := s.li q hq
  exact ⟨l, xs, h1, g.at h2 fun z => n l z (List.mem_cons_of_mem _ (List.mem_of_getElem? h1)), dps_same gs h3⟩
theorem StE.same (s : StE K C CS S H a ta la sd Ls T L kv) (e : Same H H') : StE K C CS S H' a ta la sd Ls T L kv :=
  s.keep (M := []) (GoS.of e) (fun y h => by simp at h) fun y h => by simp at h
theorem StE.grow {N : List Addr} {H0 : Hp} (s : StE K C CS S H0 a ta la sd Ls T L kv) (e : Same H0 H) (h : ∀ y ∈ N, H0 y = none) (h2 : ∀ y ∈ N, H y ≠ none) : StE K C CS (N ++ S) H a ta la sd Ls T L kv := by
  have gs := offS_grow (S := S) e h
  obtain ⟨dx, ob⟩ := s.ob
  refine ⟨fun y hy => List.mem_append_right _ (s.sub y hy), fun y hy => (List.mem_append.mp hy).elim (h2 y) fun z => same_al e (s.al y z), s.nd, ⟨dx, gs _ _ ob⟩, s.tr.same gs, gs _ _ s.ln, s.len, fun q hq => ?_, e _ _ s.se, s.rk, s.pw⟩
  obtain ⟨l, xs, h1, h2, h3⟩ := s.li q hq
  exact ⟨l, xs, h1, e _ _ h2, dps_same gs h3⟩
end
end K65
set_option Elab.async false
set_option linter.all false
set_option maxRecDepth 100000
set_option maxHeartbeats 4000000
namespace K65
open PySem PySem.Spec PyProof.Rows L2 Dt
theorem cut_drop (xs : List V) (k : Nat) : cutV xs (some (k : Int)) none = xs.drop k := by
  unfold cutV
  rw [HT.sIx_none, HT.sIx_nat]
  by_cases h : k ≤ xs.length
  · rw [Nat.min_eq_left h]
    exact List.take_of_length_le (by rw [List.length_drop]; omega)
  · rw [Nat.min_eq_right (by omega), List.drop_of_length_le (Nat.le_refl _), List.drop_of_length_le (by omega)]
    simp
theorem rSlA_all {K : PySem.W.Frag} {H : Hp} {a : Addr} {xs : List V} {lo hi : Option Int} {Q : VK} (ha : SqT K H a xs) (h : ∀ tp H2, Same H H2 → SqT K H2 tp (cutV xs lo hi) → Q (.ref tp) H2) : rSlA K (.ref a) lo hi H Q := by
  refine ⟨a, xs, rfl, ha, fun e => ?_, fun e p hp => h p _ (same_new hp) (SqT.of upd_same)⟩
  refine h a H (fun _ _ z => z) ?_
  have : cutV xs lo hi = xs := by
    unfold cutV
    rw [e.1, e.2, List.drop_zero, Nat.sub_zero, List.take_length]
  rw [this]
  exact ha
/-! ### Standing.push -/
def sidesV (p : Ad) (n : Int) (m : Nat) : List V := (List.range m).map fun k => V.int (itm p n k)
/-- the items that a push puts along the way -/
def tItemsS (K : PySem.W.Frag) (C CS : Addr) : TS := fun D σ H => ∃ a dx ta la sd n pt T p o2 o3 o5 o6 o7 o8 o9, σ = [some (.ref a), some (.int n), o2, o3, some (.ref pt), o5, o6, o7, o8, o9] ∧ H a = some (.ins CS dx (stS ta la sd)) ∧ Tree K H C ta T ∧ p ∈ lv T ∧ T.ht < 20 ∧ SqT K H pt (pth T p (p.length + 1)) ∧
  ∀ H' l, Same H H' → H l = none → H' l = some (.lst (sidesV p n (p.length + 1))) → D.nx [some (.ref a), some (.int n), o2, o3, some (.ref pt), o5, some (.ref l), o7, o8, o9] H'
theorem pe_fldK {X : Cx} {K : PySem.W.Frag} {e : Expr} {f : Str} {pos : Pos} {ta : TE} (hK : X.K = K) (h : PE X e ta) (g : attributeBase e f X.env (eval e X.env) = eval e X.env) : PE X (e.Attribute f pos) (tFld K ta f) := by
  subst hK
  exact pe_fld h g
theorem ix_listK {X : Cx} {K : PySem.W.Frag} (hK : X.K = K) : IxR X (rIxL K) := by
  subst hK
  exact ix_list
theorem pth_at {T : Dt} {p : Ad} {n k : Nat} (h : k < n) : (pth T p n)[k]? = some (V.int (T.idx (p.take k) : Nat)) := by
  unfold pth
  rw [List.getElem?_map, List.getElem?_range h]
  rfl
theorem pth_len (T : Dt) (p : Ad) (n : Nat) : (pth T p n).length = n := by
  unfold pth
  rw [List.length_map, List.length_range]
theorem sideI_take {p : Ad} {k : Nat} (h : k < p.length) (n : Int) : sideI (p.take (k + 1)) = itm p n k := by
  unfold sideI itm
  rw [List.take_succ_eq_append_getElem h, List.getLast?_concat, List.getElem?_eq_getElem h]
theorem itm_end (p : Ad) (n : Int) : itm p n p.length = n := by
  unfold itm
  rw [List.getElem?_eq_none (Nat.le_refl _)]
theorem lv_ad {T : Dt} {p : Ad} (h : p ∈ lv T) : p ∈ ad T := (List.mem_filter.mp h).1
theorem lv_lf {T : Dt} {p : Ad} (h : p ∈ lv T) : ∃ w, sub T p = some w ∧ w.len = 0 := by
  obtain ⟨h1, h2⟩ := List.mem_filter.mp h
  obtain ⟨w, hw⟩ := ad_sub h1
  refine ⟨w, hw, ?_⟩
  rw [isLf_o hw] at h2
  simpa using h2
section
variable {P : Program} {w : World} {K : PySem.W.Frag} {mg : Str → Option Value} {base : Heap} {C CS U fG : Addr}
end
end K65
set_option Elab.async false
set_option linter.all false
set_option maxRecDepth 100000
set_option maxHeartbeats 4000000
namespace K65
open PySem PySem.Spec PyProof.Rows L2 Dt
theorem sidesV_at {p : Ad} {n : Int} {m k : Nat} (h : k < m) : (sidesV p n m)[k]? = some (V.int (itm p n k)) := by
  unfold sidesV
  rw [List.getElem?_map, List.getElem?_range h]
  rfl
theorem sidesV_len (p : Ad) (n : Int) (m : Nat) : (sidesV p n m).length = m := by
  unfold sidesV
  rw [List.length_map, List.length_range]
theorem sidesV_succ (p : Ad) (n : Int) (m : Nat) : sidesV p n (m + 1) = sidesV p n m ++ [.int (itm p n m)] := by
  unfold sidesV
  rw [List.range_succ, List.map_append]
  rfl
/-- the lines when the first k entries are put -/
def pshK (p : Ad) (rs : List (List Int)) (n : Int) (L : Lns) (k : Nat) : Lns := fun q => if q <+: p ∧ q.length < k then insE (L q) (rs.getD q.length [], itm p n q.length) else L q
theorem pshK_zero (p : Ad) (rs : List (List Int)) (n : Int) (L : Lns) : pshK p rs n L 0 = L := by
  funext q
  unfold pshK
  rw [if_neg (fun z => absurd z.2 (Nat.not_lt_zero _))]
theorem pshK_full (p : Ad) (rs : List (List Int)) (n : Int) (L : Lns) : pshK p rs n L (p.length + 1) = pshL p rs n L := by
  funext q
  unfold pshK pshL
  by_cases h : q <+: p
  · rw [if_pos ⟨h, by have := h.length_le; omega⟩, if_pos h]
  · rw [if_neg (fun z => h z.1), if_neg h]
theorem pshK_succ (p : Ad) (rs : List (List Int)) (n : Int) (L : Lns) (k : Nat) (hk : k ≤ p.length) : pshK p rs n L (k + 1) = fun q => if q = p.take k then insE (L (p.take k)) (rs.getD k [], itm p n k) else pshK p rs n L k q := by
  funext q
  have hl : (p.take k).length = k := by rw [List.length_take]; omega
  by_cases e : q = p.take k
  · rw [if_pos e, e]
    unfold pshK
    rw [if_pos ⟨List.take_prefix .., by omega⟩, hl]
  · rw [if_neg e]
    unfold pshK
    by_cases h : q <+: p ∧ q.length < k
    · rw [if_pos h, if_pos ⟨h.1, by omega⟩]
    · rw [if_neg h, if_neg (fun z => ?_)]
      have : q.length = k := by
        have h1 : ¬ q.length < k := fun y => h ⟨z.1, y⟩
        omega
      refine e ?_
      rw [← this]
      exact (List.prefix_iff_eq_take.mp z.1)
theorem pshK_at (p : Ad) (rs : List (List Int)) (n : Int) (L : Lns) (k : Nat) (hk : k ≤ p.length) : pshK p rs n L k (p.take k) = L (p.take k) := by
  have hl : (p.take k).length = k := by rw [List.length_take]; omega
  unfold pshK
  rw [if_neg (fun z => by omega)]
/-- one line of a standing is another one -/
theorem StE.setL {K : PySem.W.Frag} {C CS : Addr} {S : List Addr} {H : Hp} {a ta la sd : Addr} {Ls : List Addr} {T : Dt} {L : Lns} {kv : List (Key × V)} (s : StE K C CS S H a ta la sd Ls T L kv) {q : Ad} {l : Addr} {xs : List V} {es : List En} (hq : q ∈ ad T) (hl : Ls[T.idx q]? = some l) (hx : DpAll K (offS S H) xs (es.map enD)) (h1 : RkOK es) (h2 : Asc1 es) :
    StE K C CS S (upd H l (.lst xs)) a ta la sd Ls T (fun r => if r = q then es else L r) kv := by
  have hm : l ∈ S := s.sub l (List.mem_cons_of_mem _ (List.mem_of_getElem? hl))
  have gG : GoS S H (upd H l (.lst xs)) := (GoS.refl (S := S)).upd hm
  have gs := gG.s
  obtain ⟨dx, ob⟩ := s.ob
  have hn := List.nodup_cons.mp s.nd
  have nsd : sd ≠ l := fun e => hn.1 (by rw [e]; exact List.mem_of_getElem? hl)
  refine ⟨s.sub, fun y hy => gG.k y (s.al y hy), s.nd, ⟨dx, gs _ _ ob⟩, s.tr.same gs, gs _ _ s.ln, s.len, fun r hr => ?_, by rw [upd_ne nsd]; exact s.se, fun r => ?_, fun r => ?_⟩
  · by_cases e : r = q
    · rw [e, if_pos rfl]
      exact ⟨l, xs, hl, upd_same, dps_same gs hx⟩
    · rw [if_neg e]
      obtain ⟨l', xs', g1, g2, g3⟩ := s.li r hr
      refine ⟨l', xs', g1, ?_, dps_same gs g3⟩
      rw [upd_ne]
      · exact g2
      · intro z
        rw [z] at g1
        obtain ⟨b1, c1⟩ := List.getElem?_eq_some_iff.mp g1
        obtain ⟨b2, c2⟩ := List.getElem?_eq_some_iff.mp hl
        have := (List.getElem_inj hn.2).mp (c1.trans c2.symm)
        exact e (idx_inj hr hq this)
  · split
    · exact h1
    · exact s.rk r
  · split
    · exact h2
    · exact s.pw r
/-- the packets' queues are others -/
theorem StE.setS {K : PySem.W.Frag} {C CS : Addr} {S : List Addr} {H : Hp} {a ta la sd : Addr} {Ls : List Addr} {T : Dt} {L : Lns} {kv : List (Key × V)} (s : StE K C CS S H a ta la sd Ls T L kv) (kv' : List (Key × V)) : StE K C CS S (upd H sd (.dK kv')) a ta la sd Ls T L kv' := by
  have hm : sd ∈ S := s.sub sd (List.mem_cons_self ..)
  have gG : GoS S H (upd H sd (.dK kv')) := (GoS.refl (S := S)).upd hm
  have gs := gG.s
  obtain ⟨dx, ob⟩ := s.ob
  have hn := List.nodup_cons.mp s.nd
  refine ⟨s.sub, fun y hy => gG.k y (s.al y hy), s.nd, ⟨dx, gs _ _ ob⟩, s.tr.same gs, gs _ _ s.ln, s.len, fun r hr => ?_, upd_same, s.rk, s.pw⟩
  obtain ⟨l', xs', g1, g2, g3⟩ := s.li r hr
  refine ⟨l', xs', g1, ?_, dps_same gs g3⟩
  rw [upd_ne]
  · exact g2
  · intro z
    exact hn.1 (by rw [← z]; exact List.mem_of_getElem? g1)
theorem ht_sub : ∀ (p : Ad) (T u : Dt), sub T p = some u → p.length ≤ T.ht
  | [], _, _, _ => Nat.zero_le _
  | j :: p, T, u, h => by
    obtain ⟨k, hk, h2⟩ := sub_len h
    have h3 := ht_sub p k u h2
    have h4 := ht_kid T j k hk
    show p.length + 1 ≤ T.ht
    omega
theorem ht_path {T : Dt} {p : Ad} (h : p ∈ lv T) : p.length ≤ T.ht := by
  obtain ⟨w, h1, _⟩ := lv_lf h
  exact ht_sub p T w h1
def spPush (K : PySem.W.Frag) (C CS U : Addr) : Sp := fun vs H Q E => ∃ (a ta la sd : Addr) (S Ls : List Addr) (T : Dt) (L : Lns) (kv : List (Key × V)) (x y z : V) (o oq : Option Int) (d : PyData), vs = [.ref a, x, y, z] ∧ StE K C CS S H a ta la sd Ls T L kv ∧ T.ht < 20 ∧ NumV K H x o ∧ NumV K H y oq ∧ Dp K (offS S H) z d ∧ (∀ ds, d = .tuple ds → ds.length ≤ 1000000) ∧ (∀ q, (L q).length ≤ 100000) ∧ kv.length ≤ 100000 ∧
  (absentB kv o = false → ∀ H', Same H H' → Out U "number" H' E) ∧
  (absentB kv o = true → belowB (T.lf : Nat) oq = false → ∀ H', Same H H' → Out U "queue" H' E) ∧
  (absentB kv o = true → ∀ (i : Nat) p, oq = some (i : Nat) → (lv T)[i]? = some p → fitOf (p.length + 1) d = false → ∀ H', Same H H' → Out U "ranks" H' E) ∧
  (absentB kv o = true → ∀ (n : Int) (i : Nat) p rs, o = some n → oq = some (i : Nat) → (lv T)[i]? = some p → d = .tuple (rs.map intsD) → rs.length = p.length + 1 → (∀ r ∈ rs, rankOf (intsD r) = true) → ∀ H', GoS (sd :: Ls) H H' → StE K C CS S H' a ta la sd Ls T (pshL p rs n L) (putK kv (Sum.inl n : Key) (.int (i : Nat))) → Q .non H')
/-- ranks that fit -/
theorem fit_ranks {m : Nat} {d : PyData} (h : fitOf m d = true) : ∃ rs : List (List Int), d = .tuple (rs.map intsD) ∧ rs.length = m ∧ ∀ r ∈ rs, rankOf (intsD r) = true := by
  cases d with
  | tuple ds =>
    have h' : (decide (ds.length = m) && ds.all rankOf) = true := h
    rw [Bool.and_eq_true] at h'
    have g : ∀ l : List PyData, l.all rankOf = true → ∃ rs : List (List Int), l = rs.map intsD ∧ ∀ r ∈ rs, rankOf (intsD r) = true := by
      intro l
      induction l with
      | nil => exact fun _ => ⟨[], rfl, fun r hr => nomatch hr⟩
      | cons e l ih =>
        intro hl
        rw [List.all_cons, Bool.and_eq_true] at hl
        obtain ⟨rs, rfl, hr⟩ := ih hl.2
        obtain ⟨ns, rfl⟩ := rank_eq hl.1
        refine ⟨ns :: rs, rfl, fun r hr2 => ?_⟩
        rcases List.mem_cons.mp hr2 with rfl | hr2
        · exact hl.1
        · exact hr r hr2
    obtain ⟨rs, rfl, hr⟩ := g ds h'.2
    exact ⟨rs, rfl, by have := of_decide_eq_true h'.1; simpa using this, hr⟩
  | _ => exact nomatch h
/-- a rank in memory -/
theorem dp_ranks {K : PySem.W.Frag} {H : Hp} {vs : List V} {rs : List (List Int)} (h : DpAll K H vs (rs.map intsD)) {k : Nat} {v : V} (hv : vs[k]? = some v) : ∃ r, rs[k]? = some r ∧ Dp K H v (intsD r) := by
  obtain ⟨d, h1, h2⟩ := dps_at h hv
  rw [List.getElem?_map] at h1
  obtain ⟨r, h3, rfl⟩ := Option.map_eq_some_iff.mp h1
  exact ⟨r, h3, h2⟩
section
variable {P : Program} {w : World} {K : PySem.W.Frag} {mg : Str → Option Value} {base : Heap} {C CS U fG : Addr}
theorem ok_push {f : Addr} {fd : FuncData} (F : Fun K "push" "Standing.push" s_Standing_push f fd) (T0 : Txt K mg) (hz : mg "zip" = none) (SC : StCl K CS) (TC : TCl K mg C fG)
    (GA : CalX P w K mg base (L2.CX P w) 4 "need_absent" ["standing", "number"] (spAbsent K CS U)) (GQ : CalX P w K mg base (L2.CX P w) 4 "need_queue" ["tree", "queue", "word"] (spNeedQueue K C U))
    (GN : CalX P w K mg base (L2.CX P w) 3 "need" ["fits", "word"] (spNeed U)) (GF : CalX P w K mg base CX0 3 "fit_path" ["tree", "queue", "thing"] (spFit K C)) (GB : CalX P w K mg base CX0 1 "place_behind" ["line", "rank"] (spBehindL K)) :
    FnOk P w K mg base (L2.CX P w) 5 f fd ["self", "number", "queue", "ranks"] (spPush K C CS U) := by
  refine F.okX sc_Standing_push (fun vs H Q E h => ?_) (fun cdv A outer s H vs Q E hr h => ?_)
  · obtain ⟨a, ta, la, sd, S, Ls, T, L, kv, x, y, z, o, oq, d, rfl, _⟩ := h
    rfl
  obtain ⟨a, ta, la, sd, S, Ls, T, L, kv, x, y, z, o, oq, d, rfl, st, hht, hx, hy, hd, hdl, hL, hkv, q1, q2, q3, q4⟩ := h
  have hu := hu_of hr
  refine ⟨_, (pss_cons (ps_expr (pe_cx GA hr (by decide) rfl (passes_call (takes_of rfl rfl rfl rfl) (fun _ _ _ _ h => h)) (pa_cons (pv 0) (pa_cons (pv 1) pa_nil)))) 
    (pss_cons (ps_expr (pe_cx GQ hr (by decide) rfl (passes_call (takes_of rfl rfl rfl rfl) (fun _ _ _ _ h => h)) (pa_cons (pe_fld (pv 0) rfl) (pa_cons (pv 2) (pa_cons pe_str pa_nil))))) 
    (pss_cons (ps_expr (pe_cx GN hr (by decide) rfl (passes_call (takes_of rfl rfl rfl rfl) (fun _ _ _ _ h => h)) (pa_cons (pe_c0 GF hr (by decide) rfl (pa_cons (pe_fld (pv 0) rfl) (pa_cons (pv 2) (pa_cons (pv 3) pa_nil)))) (pa_cons pe_str pa_nil)))) 
    (pss_cons (ps_set (i := 4) sc_Standing_push.nd rfl (.inl rfl) (pe_ix ix_list (pe_fld (pe_fld (pv 0) rfl) rfl) (pv 2) (fun _ _ => rfl))) 
    (pss_cons (ps_conv (t' := tItemsS K C CS) (ps_set (i := 6) sc_Standing_push.nd rfl (.inl rfl) (pe_op op_cat (pe_lc (own := [("node", 5)]) (g := gName 5) (tt := tYes) (by rfl) sc_Standing_push.nd (pi_tup (pe_slice sl_tupA (pv 4) (po_some pe_int) po_none)) (blkOk_by (own := [("node", 5)]) (N := N_Standing_push) (sc := defScope s_Standing_push) (by decide +kernel)) (fun _ _ _ _ _ => pg_name (i := 5) sc_Standing_push.nd rfl (Or.inl rfl)) (fun _ _ _ _ _ => pts_nil) (fun _ _ _ _ _ => by exact (pe_ix (ix_listK (K := K) (by exact rfl)) (pe_fldK (K := K) (by exact rfl) (pe_fldK (K := K) (by exact rfl) (pv 0) rfl) rfl) (pv 5) (fun _ _ => rfl)))) (pe_lst (pa_cons (pv 1) pa_nil)))) (by
      rintro D σ H ⟨a, dx, ta, la, sd, n, pt, T, p, o2, o3, o5, o6, o7, o8, o9, rfl, hob, hTr, hp, hht, hpt, q⟩
      have hpl := hTr
      obtain ⟨dx', fv, L, S, h1, h2, h3, h4⟩ := hTr
      refine ⟨_, rfl, _, rfl, ?_⟩
      dsimp only [L2.tNoPart]
      refine rSlA_all hpt fun tp H2 s2 htp => ?_
      rw [show cutV (pth T p (p.length + 1)) (some (1 : Int)) none = (pth T p (p.length + 1)).drop 1 from cut_drop _ 1] at htp
      refine ⟨tp, rfl, ⟨_, htp⟩, fun Dl hDl => lc_tup (K := K) (a := tp) (xs := (pth T p (p.length + 1)).drop 1) (fun k H' => Same H2 H' ∧ H' Dl = some (.lst (sidesV p n k))) ⟨same_new hDl, upd_same⟩ (fun k H' _ hh => same_sqt hh.1 htp) ?_ ?_⟩
      · rintro k xv H3 hk ⟨s3, hD3⟩
        rw [List.getElem?_drop] at hk
        have hkl := (List.getElem?_eq_some_iff.mp hk).1
        rw [pth_len] at hkl
        rw [pth_at (by omega)] at hk
        obtain rfl := Option.some.inj hk
        have sA := s2.trans s3
        have hpa : p.take (1 + k) ∈ ad T := pre_ad (lv_ad hp) (List.take_prefix ..)
        obtain ⟨v, hv1, hv2⟩ := h2.node (k := 4) (by decide) hpa
        refine ⟨rfl, ?_⟩
        refine ⟨_, rfl, a, CS, dx, _, _, rfl, sA _ _ hob, SC.cl, SC.nT, rfl, ta, C, dx', _, _, rfl, sA _ _ h1.ob, TC.cl, TC.n4, stF_4 _ _, _, rfl, L 4, _, _, _, rfl, rfl, SqL.of (sA _ _ (h1.ls 4 (by decide))), hv1, ?_⟩
        have ev : v = .int (itm p n k) := by
          have z : v = .int (sideI (p.take (1 + k))) := hv2
          rw [z, show 1 + k = k + 1 by omega, sideI_take (by omega) n]
        refine ⟨_, hD3, small1000 (by rw [sidesV_len]; have := hpl; have z1 := ht_path hp; omega), same_mut s3 hDl, ?_⟩
        rw [upd_same, sidesV_succ, ev]
      · rintro H3 ⟨s3, hD3⟩
        rw [List.length_drop, pth_len] at hD3
        refine ⟨_, rfl, (by show 1 ≤ sizeLine; decide), fun l2 hl2 => ?_⟩
        have sB := s2.trans (s3.trans (same_new (o := .lst [.int n]) hl2))
        refine ⟨Dl, l2, _, _, rfl, rfl, same_new hl2 _ _ hD3, upd_same, (by rw [sidesV_len]; have := sizeLine_eq; have z1 := ht_path hp; show p.length + 1 - 1 + 1 ≤ _; omega), fun l hl => ?_⟩
        refine q _ l (sB.trans (same_new hl)) (sB.free hl) ?_
        rw [upd_same, sidesV_succ, itm_end]
        rfl)) 
    (pss_cons (ps_for (passes_of rfl) rfl (pi_zip3 (by rfl) hz (pa_cons (pv 4) (pa_cons (pv 3) (pa_cons (pv 6) pa_nil)))) (pg_tup (by rfl) (pgs_cons (pg_name (i := 5) sc_Standing_push.nd rfl (Or.inl rfl)) (pgs_cons (pg_name (i := 7) sc_Standing_push.nd rfl (Or.inl rfl)) (pgs_cons (pg_name (i := 8) sc_Standing_push.nd rfl (Or.inl rfl)) pgs_nil)))) 
      (pss_cons (ps_set (i := 9) sc_Standing_push.nd rfl (.inl rfl) (pe_ix ix_list (pe_fld (pv 0) rfl) (pv 5) (fun _ _ => rfl))) 
      (pss_one (ps_expr (pe_bm PySem.F.plainAttrs_list PySem.F.slot_list_insert PySem.F.type_list_insert mt_insert (pv 9) (pa_cons (pe_c0 GB hr (by decide) rfl (pa_cons (pv 9) (pa_cons (pv 7) pa_nil))) (pa_cons (pe_tup (pa_cons (pv 7) (pa_cons (pv 8) pa_nil))) pa_nil))))))) 
    (pss_one (ps_dput hu (pe_fld (pv 0) rfl) (pv 1) (pv 2) rfl)))))))), ?_⟩
  obtain ⟨dx, hob⟩ := st.obj
  have hTr := st.tree
  refine ⟨_, rfl, _, rfl, a, dx, ta, la, sd, x, o, kv, rfl, hob, st.se, hx, fun hA => ?_, fun hA => q1 hA⟩
  refine ⟨_, rfl, a, CS, dx, _, _, rfl, hob, SC.cl, SC.nT, rfl, _, rfl, ta, y, oq, T, "queue", rfl, hTr, hy, fun hB => ?_, fun hB => q2 hA hB H (fun _ _ z => z)⟩
  obtain ⟨i, p, hp, rfl⟩ := below_lv hB
  obtain rfl : y = .int (i : Nat) := hy
  refine ⟨_, rfl, a, CS, dx, _, _, rfl, hob, SC.cl, SC.nT, rfl, _, rfl, _, rfl, ta, i, z, T, p, d, rfl, hTr, hp, dp_same offS_same hd, hdl, fun H1 s1 => ?_⟩
  refine ⟨_, _, rfl, fun hF => ?_, fun hF => q3 hA i p rfl hp hF H1 s1⟩
  obtain ⟨rs, rfl, hrl, hrs⟩ := fit_ranks hF
  obtain ⟨n, rfl⟩ : ∃ n, o = some n := by
    cases o with
    | none => exact nomatch hA
    | some n => exact ⟨n, rfl⟩
  obtain rfl : x = .int n := hx
  have st1 := st.same s1
  obtain ⟨dx', fv, LL, SS, h1, h2, h3, h4⟩ := st1.tr
  have hp9 := h2 9 (by decide)
  obtain ⟨v9, e9, b9, rfl, hb9⟩ := Paired.at hp9 (show (aof 9 T)[i]? = some p from hp)
  have hpl : p ∈ lv T := List.mem_of_getElem? hp
  have hpth := ht_path hpl
  refine ⟨_, rfl, a, CS, dx, _, _, rfl, s1 _ _ hob, SC.cl, SC.nT, rfl, ta, C, dx', _, _, rfl, (offS_some h1.ob).2, TC.cl, TC.n9, stF_9 _ _, _, rfl, LL 9, _, _, _, rfl, rfl, SqL.of (offS_some (h1.ls 9 (by decide))).2, atI_nat e9, ?_⟩
  refine ⟨a, dx, ta, la, sd, n, b9, T, p, _, _, _, _, _, _, _, rfl, s1 _ _ hob, st1.tree, hpl, hht, same_sqt offS_same hb9, fun H2 il s2 hil0 hil => ?_⟩
  have st2 := st1.same s2
  have g2 := offS_grow (S := S) (N := []) s2 (fun y hy => nomatch hy)
  have hb2 : SqT K (offS S H2) b9 (pth T p (p.length + 1)) := same_sqt g2 hb9
  have hd2 : Dp K (offS S H2) z (.tuple (rs.map intsD)) := dp_same g2 (dp_same (offS_grow (S := S) (N := []) s1 (fun y hy => nomatch hy)) hd)
  have sA := s1.trans s2
  have hilS : il ∉ sd :: Ls := fun hm => st1.al il (st1.sub il hm) hil0
  generalize hz0 : V.ref b9 = b9v
  cases hd2 with
  | @tup zb zs _ hzs hza =>
  subst hz0
  have hzl := dps_len hza
  rw [List.length_map, hrl] at hzl
  refine ⟨_, rfl, _, rfl, _, rfl, b9, zb, il, pth T p (p.length + 1), zs, sidesV p n (p.length + 1), rfl, same_sqt offS_same hb2, same_sqt offS_same hzs, SqL.of hil, ?_⟩
  refine for_zip3 (K := K) (a := b9) (b := zb) (c := il) (xs := pth T p (p.length + 1)) (ys := zs) (zs := sidesV p n (p.length + 1)) (by rw [pth_len, hzl]) (by rw [pth_len, sidesV_len])
    (fun k σ H' => ∃ o5 o7 o8 o9, σ = [some (.ref a), some (.int n), some (.int (i : Nat)), some (.ref zb), some (.ref b9), o5, some (.ref il), o7, o8, o9] ∧ GoS (sd :: Ls) H2 H' ∧ StE K C CS S H' a ta la sd Ls T (pshK p rs n L k) kv)
    ⟨none, none, none, none, rfl, GoS.refl, by rw [pshK_zero]; exact st2⟩ ?_ ?_ ?_
  · rintro k σ H' ⟨o5, o7, o8, o9, rfl, g, s'⟩
    have gs : Same (offS S H2) (offS S H') := (g.wide s'.sub).s
    exact ⟨same_sqt (gs.trans offS_same) hb2, same_sqt (gs.trans offS_same) hzs, SqL.of (g.at hil hilS)⟩
  · rintro k x1 y1 u1 T1 σ H' hx1 hy1 hu1 ⟨o5, o7, o8, o9, rfl, g, s'⟩ hT1
    have hkl := (List.getElem?_eq_some_iff.mp hx1).1
    rw [pth_len] at hkl
    rw [pth_at hkl] at hx1
    rw [sidesV_at hkl] at hu1
    obtain rfl := Option.some.inj hx1
    obtain rfl := Option.some.inj hu1
    have gs : Same (offS S H2) (offS S H') := (g.wide s'.sub).s
    obtain ⟨r, hr1, hr2⟩ := dp_ranks hza hy1
    have hq : p.take k ∈ ad T := pre_ad (lv_ad hpl) (List.take_prefix ..)
    have s3 := s'.same (same_new (o := .tup [V.int (T.idx (p.take k) : Nat), y1, V.int (itm p n k)]) hT1)
    have g3 := g.new (v := .tup [V.int (T.idx (p.take k) : Nat), y1, V.int (itm p n k)]) hT1
    have hT3 : (upd H' T1 (.tup [V.int (T.idx (p.take k) : Nat), y1, V.int (itm p n k)])) T1 = some (.tup [V.int (T.idx (p.take k) : Nat), y1, V.int (itm p n k)]) := upd_same
    revert s3 g3 hT3
    generalize upd H' T1 (.tup [V.int (T.idx (p.take k) : Nat), y1, V.int (itm p n k)]) = H3
    intro s3 g3 hT3
    refine ⟨T1, _, rfl, SqT.of hT3, rfl, ?_⟩
    refine ⟨_, _, rfl, _, _, rfl, _, _, rfl, rfl, ?_⟩
    obtain ⟨dx3, hob3⟩ := s3.obj
    obtain ⟨l, xs, k1, k2, k3⟩ := s3.li _ hq
    rw [pshK_at p rs n L k (by omega)] at k3
    have gs3 : Same (offS S H2) (offS S H3) := (g3.wide s3.sub).s
    have hy3 : Dp K (offS S H3) y1 (intsD r) := dp_same gs3 hr2
    have hrr := hrs r (List.mem_of_getElem? hr1)
    have hkS : RkOK (L (p.take k)) := st.rk _
    have hkA : Asc1 (L (p.take k)) := st.pw _
    have hll := dps_len k3
    rw [List.length_map] at hll
    refine ⟨_, rfl, a, CS, dx3, _, _, rfl, hob3, SC.cl, SC.nL, rfl, _, rfl, la, _, _, _, rfl, rfl, SqL.of s3.lst, (atI_nat (by rw [List.getElem?_map, k1]; rfl)), ?_⟩
    refine ⟨_, rfl, .inl ⟨rfl, _, SqL.of k2⟩, ?_⟩
    refine ⟨_, rfl, _, rfl, l, y1, xs, _, intsD r, rfl, SqL.of k2, dps_same offS_same k3, dp_same offS_same hy3, line_en hkS hkA, hrr, (by rw [List.length_map]; have := hL (p.take k); omega), fun m hm => ?_⟩
    rw [rksOf_en, rkInts_ints] at hm
    have hml := hm.le
    rw [List.length_map] at hml
    refine ⟨_, rfl, _, rfl, (by show 2 ≤ sizeLine; decide), fun t ht => ?_⟩
    have s4 := s3.same (same_new (o := .tup [y1, V.int (itm p n k)]) ht)
    have g4 := g3.new (v := .tup [y1, V.int (itm p n k)]) ht
    have gg : Same (offS S H3) (offS S (upd H3 t (.tup [y1, V.int (itm p n k)]))) := (GoS.of (same_new ht)).s
    have ht4 : (upd H3 t (.tup [y1, V.int (itm p n k)])) t = some (.tup [y1, V.int (itm p n k)]) := upd_same
    have k24 : (upd H3 t (.tup [y1, V.int (itm p n k)])) l = some (.lst xs) := same_new ht _ _ k2
    have htS : t ∉ S := fun z => s3.al t z ht
    revert s4 g4 gg ht4 k24
    generalize upd H3 t (.tup [y1, V.int (itm p n k)]) = H4
    intro s4 g4 gg ht4 k24
    have hsl := sizeLine_eq
    have hLk := hL (p.take k)
    refine ⟨l, xs, (m : Nat), .ref t, rfl, rfl, k24, by omega, by omega, by omega, ?_⟩
    rw [Int.toNat_natCast]
    have hent : Dp K (offS S H4) (.ref t) (enD (r, itm p n k)) := .tup (SqT.of (by rw [offS_ne htS]; exact ht4)) (.cons (dp_same gg hy3) (.cons (.int _) .nil))
    have hins := take_insE (e := (r, itm p n k)) hkA hm
    have hnew := dps_ins (v := .ref t) (dps_same gg k3) hent hins
    have hlM : l ∈ sd :: Ls := List.mem_cons_of_mem _ (List.mem_of_getElem? k1)
    refine ⟨_, _, _, _, rfl, g4.upd hlM, ?_⟩
    have fin := s4.setL (q := p.take k) hq k1 hnew (insE_rk hkS hrr) (insE_asc hkA)
    rw [pshK_succ p rs n L k (by omega)]
    have er : rs.getD k [] = r := by
      rw [List.getD_eq_getElem?_getD, hr1]
      rfl
    rw [er]
    exact fin
  · rintro σ H' ⟨o5, o7, o8, o9, rfl, g, s'⟩
    rw [pth_len, pshK_full] at s'
    obtain ⟨dx3, hob3⟩ := s'.obj
    have hsl := sizeLine_eq
    refine ⟨_, rfl, _, rfl, a, CS, dx3, _, _, rfl, hob3, SC.cl, SC.nS, rfl, _, rfl, sd, _, rfl, .inl ⟨kv, (Sum.inl n : Key), s'.se, rfl, by omega, rfl⟩, ?_⟩
    exact q4 hA n i p rs rfl rfl hp rfl hrl hrs _ (((GoS.of sA).trans g).upd (List.mem_cons_self ..)) (s'.setS _)
end
end K65
set_option Elab.async false
set_option linter.all false
set_option maxRecDepth 100000
set_option maxHeartbeats 4000000
namespace K65
open PySem PySem.Spec PyProof.Rows L2 Dt
/-! ### the queues of the packets -/
theorem valV_drop (k k' : Key) : ∀ kvs : List (Key × V), valV (dropK kvs k) k' = if k' = k then none else valV kvs k'
  | [] => by
    unfold valV dropK
    split <;> rfl
  | (k0, v) :: kvs => by
    have ih := valV_drop k k' kvs
    unfold valV dropK at ih ⊢
    rw [List.filter_cons]
    by_cases e : k0 = k
    · rw [if_neg (by simp [e])]
      rw [ih]
      by_cases z : k' = k
      · rw [if_pos z, if_pos z]
      · rw [if_neg z, if_neg z, List.find?_cons_of_neg (by simp [e]; exact Ne.symm z)]
    · rw [if_pos (by simpa using e)]
      by_cases z : k0 = k'
      · subst z
        rw [List.find?_cons_of_pos (by simp), List.find?_cons_of_pos (by simp), if_neg e]
      · rw [List.find?_cons_of_neg (by simpa using z), List.find?_cons_of_neg (by simpa using z), ih]
theorem valV_put (k k' : Key) (v : V) (kvs : List (Key × V)) : valV (putK kvs k v) k' = if k' = k then some v else valV kvs k' := by
  unfold putK
  by_cases h : (kvs.any fun kv => decide (kv.1 = k)) = true
  · rw [if_pos h]
    revert h
    induction kvs with
    | nil => exact fun h => nomatch h
    | cons e kvs ih =>
      obtain ⟨k0, v0⟩ := e
      intro h
      unfold valV
      rw [List.map_cons]
      by_cases e : k0 = k
      · subst e
        dsimp only
        rw [if_pos rfl]
        by_cases z : k' = k0
        · subst z
          rw [if_pos rfl, List.find?_cons_of_pos (by simp)]
          rfl
        · rw [if_neg z, List.find?_cons_of_neg (by simpa using Ne.symm z), List.find?_cons_of_neg (by simpa using Ne.symm z)]
          have : ∀ l : List (Key × V), (l.map fun kv => if kv.1 = k0 then (kv.1, v) else kv).find? (fun kv => decide (kv.1 = k')) = l.find? (fun kv => decide (kv.1 = k')) := by
            intro l
            induction l with
            | nil => rfl
            | cons y l ih2 =>
              rw [List.map_cons]
              by_cases q : y.1 = k0
              · rw [if_pos q, List.find?_cons_of_neg (by simp [q]; exact Ne.symm z), List.find?_cons_of_neg (by simp [q]; exact Ne.symm z), ih2]
              · rw [if_neg q]
                by_cases q2 : y.1 = k'
                · rw [List.find?_cons_of_pos (by simpa using q2), List.find?_cons_of_pos (by simpa using q2)]
                · rw [List.find?_cons_of_neg (by simpa using q2), List.find?_cons_of_neg (by simpa using q2), ih2]
          rw [this]
      · dsimp only
        rw [if_neg e]
        rw [List.any_cons, decide_eq_false e, Bool.false_or] at h
        have ih := ih h
        unfold valV at ih
        by_cases z : k0 = k'
        · subst z
          rw [List.find?_cons_of_pos (by simp), List.find?_cons_of_pos (by simp), if_neg e]
        · rw [List.find?_cons_of_neg (by simpa using z), List.find?_cons_of_neg (by simpa using z), ih]
  · rw [if_neg h]
    unfold valV
    rw [List.find?_append]
    by_cases z : k' = k
    · subst z
      rw [if_pos rfl]
      have : kvs.find? (fun kv => decide (kv.1 = k')) = none := by
        rw [List.find?_eq_none]
        intro y hy q
        exact h (List.any_eq_true.mpr ⟨y, hy, q⟩)
      rw [this]
      simp
    · rw [if_neg z]
      have : ([(k, v)] : List (Key × V)).find? (fun kv => decide (kv.1 = k')) = none := by
        rw [List.find?_cons_of_neg (by simpa using Ne.symm z)]
        rfl
      rw [this, Option.or_none]
theorem valV_some {kvs : List (Key × V)} {e : Key × V} (h : e ∈ kvs) : ∃ v, valV kvs e.1 = some v := by
  unfold valV
  cases q : kvs.find? (fun kv => decide (kv.1 = e.1)) with
  | some y => exact ⟨y.2, rfl⟩
  | none =>
    rw [List.find?_eq_none] at q
    exact absurd (decide_eq_true rfl) (q e h)
structure Seat (T : Dt) (L : Lns) (kv : List (Key × V)) : Prop where
  to : ∀ n i p, (lv T)[i]? = some p → n ∈ its (L p) → valV kv (Sum.inl n : Key) = some (.int (i : Nat))
  fr : ∀ k v, valV kv k = some v → ∃ n i p, k = Sum.inl n ∧ v = .int (i : Nat) ∧ (lv T)[i]? = some p ∧ n ∈ its (L p)
  nd : ∀ p ∈ lv T, (its (L p)).Nodup
theorem leaf_pre {T : Dt} {p q : Ad} (hp : p ∈ lv T) (hq : q ∈ lv T) (h : q <+: p) : q = p := by
  obtain ⟨s, rfl⟩ := h
  obtain ⟨w, h1, h2⟩ := lv_lf hq
  obtain ⟨w', h3, _⟩ := lv_lf hp
  cases s with
  | nil => rw [List.append_nil]
  | cons j s =>
    rw [(sub_app T q w h1 (j :: s)).1] at h3
    obtain ⟨k, hk, _⟩ := sub_len h3
    have := kid_lt hk
    omega
theorem lv_nodup (T : Dt) : (lv T).Nodup := (ad_nodup T).filter _
theorem lv_inj {T : Dt} {p q : Ad} {i : Nat} (h : (lv T)[i]? = some p) (g : (lv T)[i]? = some q) : p = q := Option.some.inj (h.symm.trans g)
theorem lv_i {T : Dt} {p : Ad} {i j : Nat} (h : (lv T)[i]? = some p) (g : (lv T)[j]? = some p) : i = j := by
  obtain ⟨h1, h2⟩ := List.getElem?_eq_some_iff.mp h
  obtain ⟨g1, g2⟩ := List.getElem?_eq_some_iff.mp g
  exact (List.getElem_inj (lv_nodup T)).mp (h2.trans g2.symm)
theorem dep_lv {T : Dt} {L : Lns} {n : Int} {p : Ad} {rs : List (List Int)} (d : Dep T L n p rs) : p ∈ lv T := by
  obtain ⟨w, h1, h2⟩ := d.lf
  refine List.mem_filter.mpr ⟨sub_ad h1, ?_⟩
  rw [isLf_o h1, h2]
  rfl
theorem cutL_leaf {T : Dt} {L : Lns} {p q : Ad} (hp : p ∈ lv T) (hq : q ∈ lv T) (h : q ≠ p) : cutL p L q = L q := if_neg fun z => h (leaf_pre hp hq z)
theorem cutL_self (p : Ad) (L : Lns) : cutL p L p = (L p).tail := if_pos (List.prefix_refl p)
theorem pshL_leaf {T : Dt} {L : Lns} {p q : Ad} {rs : List (List Int)} {n : Int} (hp : p ∈ lv T) (hq : q ∈ lv T) (h : q ≠ p) : pshL p rs n L q = L q := if_neg fun z => h (leaf_pre hp hq z)
theorem pshL_self (p : Ad) (rs : List (List Int)) (n : Int) (L : Lns) : (its (pshL p rs n L p)).Perm (n :: its (L p)) := by
  unfold pshL
  rw [if_pos (List.prefix_refl p), itm_end]
  exact (insE_perm _ _).map _
theorem Seat.cut {T : Dt} {L : Lns} {kv : List (Key × V)} {n : Int} {p : Ad} {rs : List (List Int)} (s : Seat T L kv) (d : Dep T L n p rs) : Seat T (cutL p L) (dropK kv (Sum.inl n : Key)) := by
  have hp := dep_lv d
  obtain ⟨r, t, hL, _⟩ := d.la
  have hn : n ∈ its (L p) := by rw [hL]; exact List.mem_cons_self ..
  have hnd := s.nd p hp
  rw [hL] at hnd
  have hnd' := List.nodup_cons.mp (show (n :: its t).Nodup from hnd)
  obtain ⟨i, hi⟩ := List.mem_iff_getElem?.mp hp
  have ht : cutL p L p = t := by rw [cutL_self, hL]; rfl
  refine ⟨fun n' i' p' h1 h2 => ?_, fun k v h => ?_, fun p' hp' => ?_⟩
  · rw [valV_drop]
    by_cases e : p' = p
    · subst e
      rw [ht] at h2
      have ne : n' ≠ n := fun z => hnd'.1 (by rw [← z]; exact h2)
      rw [if_neg (fun z => ne (Sum.inl.inj z))]
      exact s.to n' i' p' h1 (by rw [hL]; exact List.mem_cons_of_mem _ h2)
    · rw [cutL_leaf hp (List.mem_of_getElem? h1) e] at h2
      have g := s.to n' i' p' h1 h2
      rw [if_neg (fun z => ?_), g]
      have z := Sum.inl.inj z
      subst z
      rw [s.to n' i p hi hn] at g
      have : i = i' := by
        have := Option.some.inj g
        injection this with this
        omega
      subst this
      exact e (lv_inj h1 hi)
  · rw [valV_drop] at h
    by_cases e : k = Sum.inl n
    · rw [if_pos e] at h
      exact nomatch h
    · rw [if_neg e] at h
      obtain ⟨n', i', p', rfl, rfl, h1, h2⟩ := s.fr k v h
      refine ⟨n', i', p', rfl, rfl, h1, ?_⟩
      by_cases e2 : p' = p
      · subst e2
        rw [ht]
        rw [hL] at h2
        rcases List.mem_cons.mp (show n' ∈ n :: its t from h2) with z | z
        · exact absurd (congrArg Sum.inl z) e
        · exact z
      · rw [cutL_leaf hp (List.mem_of_getElem? h1) e2]
        exact h2
  · by_cases e : p' = p
    · rw [e, ht]
      exact hnd'.2
    · rw [cutL_leaf hp hp' e]
      exact s.nd p' hp'
theorem Seat.psh {T : Dt} {L : Lns} {kv : List (Key × V)} {n : Int} {p : Ad} {i : Nat} (rs : List (List Int)) (s : Seat T L kv) (hi : (lv T)[i]? = some p) (hn : valV kv (Sum.inl n : Key) = none) : Seat T (pshL p rs n L) (putK kv (Sum.inl n : Key) (.int (i : Nat))) := by
  have hp := List.mem_of_getElem? hi
  have no : ∀ p' ∈ lv T, n ∉ its (L p') := fun p' hp' z => by
    obtain ⟨i', hi'⟩ := List.mem_iff_getElem?.mp hp'
    rw [s.to n i' p' hi' z] at hn
    exact nomatch hn
  refine ⟨fun n' i' p' h1 h2 => ?_, fun k v h => ?_, fun p' hp' => ?_⟩
  · rw [valV_put]
    by_cases e : p' = p
    · subst e
      obtain rfl := lv_i h1 hi
      rcases List.mem_cons.mp ((pshL_self p' rs n L).mem_iff.mp h2) with z | z
      · rw [z, if_pos rfl]
      · rw [if_neg (fun q => no p' hp (by rw [← Sum.inl.inj q]; exact z))]
        exact s.to n' i' p' h1 z
    · rw [pshL_leaf hp (List.mem_of_getElem? h1) e] at h2
      rw [if_neg (fun q => no p' (List.mem_of_getElem? h1) (by rw [← Sum.inl.inj q]; exact h2))]
      exact s.to n' i' p' h1 h2
  · rw [valV_put] at h
    by_cases e : k = Sum.inl n
    · rw [if_pos e] at h
      exact ⟨n, i, p, e, (Option.some.inj h).symm, hi, (pshL_self p rs n L).mem_iff.mpr (List.mem_cons_self ..)⟩
    · rw [if_neg e] at h
      obtain ⟨n', i', p', rfl, rfl, h1, h2⟩ := s.fr k v h
      refine ⟨n', i', p', rfl, rfl, h1, ?_⟩
      by_cases e2 : p' = p
      · subst e2
        exact (pshL_self p' rs n L).mem_iff.mpr (List.mem_cons_of_mem _ h2)
      · rw [pshL_leaf hp (List.mem_of_getElem? h1) e2]
        exact h2
  · by_cases e : p' = p
    · subst e
      exact (pshL_self p' rs n L).nodup_iff.mpr (List.nodup_cons.mpr ⟨no p' hp, s.nd p' hp⟩)
    · rw [pshL_leaf hp hp' e]
      exact s.nd p' hp'
theorem con_empty : ∀ (q : Ad) (u w : Dt) (L : Lns), Con u L → L [] = [] → sub u q = some w → L q = []
  | [], _, _, _, _, h, _ => h
  | j :: q, u, w, L, cn, h, hq => by
    obtain ⟨k, hk, hk2⟩ := sub_len hq
    have h0 := cn.ct [] u j (sub_nil u) (kid_lt hk)
    rw [h] at h0
    have e : sh j L [] = [] := List.eq_nil_of_length_eq_zero (by rw [show sh j L [] = L ([] ++ [j]) from rfl, ← h0]; rfl)
    exact con_empty q k w (sh j L) (cn.kid hk) e hk2
theorem seat_empty {T : Dt} {L : Lns} {kv : List (Key × V)} (s : Seat T L kv) (c : Con T L) : kv = [] ↔ L [] = [] := by
  constructor
  · intro h
    by_cases e : L [] = []
    · exact e
    · obtain ⟨n, p, rs, d⟩ := dep_ex _ T L (Nat.le_refl _) c e
      obtain ⟨r, t, hL, _⟩ := d.la
      obtain ⟨i, hi⟩ := List.mem_iff_getElem?.mp (dep_lv d)
      have := s.to n i p hi (by rw [hL]; exact List.mem_cons_self ..)
      rw [h] at this
      exact nomatch this
  · intro h
    cases kv with
    | nil => rfl
    | cons e kv =>
      obtain ⟨v, hv⟩ := valV_some (List.mem_cons_self (a := e) (l := kv))
      obtain ⟨n, i, p, _, _, h1, h2⟩ := s.fr _ _ hv
      obtain ⟨w, hw, _⟩ := lv_lf (List.mem_of_getElem? h1)
      rw [con_empty p T w L c h hw] at h2
      exact nomatch h2
theorem dropK_le' (kv : List (Key × V)) (k : Key) : (dropK kv k).length ≤ kv.length := List.length_filter_le ..
theorem putK_le (kv : List (Key × V)) (k : Key) (v : V) : (putK kv k v).length ≤ kv.length + 1 := by
  unfold putK
  split
  · rw [List.length_map]
    omega
  · rw [List.length_append]
    exact Nat.le_refl _
end K65
set_option Elab.async false
set_option linter.all false
set_option maxRecDepth 100000
set_option maxHeartbeats 4000000
namespace K65
open PySem PySem.Spec PyProof.Rows L2 Dt
theorem offS_sub {S S' : List Addr} {H : Hp} (h : ∀ y ∈ S, y ∈ S') : Same (offS S' H) (offS S H) := fun y u e => by
  obtain ⟨h1, h2⟩ := offS_some e
  rw [offS_ne (fun z => h1 (h y z))]
  exact h2
theorem StE.shrink {K : PySem.W.Frag} {C CS : Addr} {S S' : List Addr} {H : Hp} {a ta la sd : Addr} {Ls : List Addr} {T : Dt} {L : Lns} {kv : List (Key × V)} (s : StE K C CS S' H a ta la sd Ls T L kv) (h : ∀ y ∈ S, y ∈ S') (g : ∀ y ∈ sd :: Ls, y ∈ S) : StE K C CS S H a ta la sd Ls T L kv := by
  have gs := offS_sub (H := H) h
  obtain ⟨dx, ob⟩ := s.ob
  refine ⟨g, fun y hy => s.al y (h y hy), s.nd, ⟨dx, gs _ _ ob⟩, s.tr.same gs, gs _ _ s.ln, s.len, fun q hq => ?_, s.se, s.rk, s.pw⟩
  obtain ⟨l, xs, h1, h2, h3⟩ := s.li q hq
  exact ⟨l, xs, h1, h2, dps_same gs h3⟩
/-- a new mutable object -/
theorem StE.with {K : PySem.W.Frag} {C CS : Addr} {S : List Addr} {H : Hp} {a ta la sd : Addr} {Ls : List Addr} {T : Dt} {L : Lns} {kv : List (Key × V)} (s : StE K C CS S H a ta la sd Ls T L kv) {p : Addr} {v : HO} (h : H p = none) : StE K C CS (p :: S) (upd H p v) a ta la sd Ls T L kv :=
  s.grow (N := [p]) (same_new h) (fun y hy => by rw [List.mem_singleton.mp hy]; exact h) fun y hy => by
    rw [List.mem_singleton.mp hy, upd_same]
    exact fun z => nomatch z
theorem GoS.mutNew {S : List Addr} {H H' : Hp} {p : Addr} {v : HO} (g : GoS S H H') (h : H p = none) : GoS S H (L2.upd H' p v) := ⟨fun y u e => by
  obtain ⟨h1, h2⟩ := offS_some e
  have h3 := g.at h2 h1
  rw [offS_ne h1, upd_ne (fun z => by rw [z, h] at h2; exact nomatch h2)]
  exact h3, fun y hy => by
  by_cases z : y = p
  · rw [z, upd_same]
    exact fun q => nomatch q
  · rw [upd_ne z]
    exact g.k y hy⟩
/-- one of the mutable objects is mutated, none of the standing's -/
theorem StE.mut {K : PySem.W.Frag} {C CS : Addr} {S : List Addr} {H : Hp} {a ta la sd : Addr} {Ls : List Addr} {T : Dt} {L : Lns} {kv : List (Key × V)} (s : StE K C CS S H a ta la sd Ls T L kv) {p : Addr} {v : HO} (h : p ∈ S) (n : p ∉ sd :: Ls) : StE K C CS S (upd H p v) a ta la sd Ls T L kv :=
  s.keep (M := [p]) (GoS.refl.upd (List.mem_singleton.mpr rfl)) (fun y hy => by rw [List.mem_singleton.mp hy]; exact h) fun y hy => by rw [List.mem_singleton.mp hy]; exact n
/-- the lines when the first k entries are taken -/
def cutK (p : Ad) (L : Lns) (k : Nat) : Lns := fun q => if q <+: p ∧ q.length < k then (L q).tail else L q
theorem cutK_zero (p : Ad) (L : Lns) : cutK p L 0 = L := by
  funext q
  unfold cutK
  rw [if_neg (fun z => absurd z.2 (Nat.not_lt_zero _))]
theorem cutK_full (p : Ad) (L : Lns) : cutK p L (p.length + 1) = cutL p L := by
  funext q
  unfold cutK cutL
  by_cases h : q <+: p
  · rw [if_pos ⟨h, by have := h.length_le; omega⟩, if_pos h]
  · rw [if_neg (fun z => h z.1), if_neg h]
theorem cutK_succ (p : Ad) (L : Lns) (k : Nat) (hk : k ≤ p.length) : cutK p L (k + 1) = fun q => if q = p.take k then (L (p.take k)).tail else cutK p L k q := by
  funext q
  have hl : (p.take k).length = k := by rw [List.length_take]; omega
  by_cases e : q = p.take k
  · rw [if_pos e, e]
    unfold cutK
    rw [if_pos ⟨List.take_prefix .., by omega⟩]
  · rw [if_neg e]
    unfold cutK
    by_cases h : q <+: p ∧ q.length < k
    · rw [if_pos h, if_pos ⟨h.1, by omega⟩]
    · rw [if_neg h, if_neg (fun z => ?_)]
      have : q.length = k := by
        have h1 : ¬ q.length < k := fun y => h ⟨z.1, y⟩
        omega
      refine e ?_
      rw [← this]
      exact (List.prefix_iff_eq_take.mp z.1)
theorem cutK_at (p : Ad) (L : Lns) (k : Nat) (hk : k ≤ p.length) : cutK p L k (p.take k) = L (p.take k) := by
  have hl : (p.take k).length = k := by rw [List.length_take]; omega
  unfold cutK
  rw [if_neg (fun z => by omega)]
theorem kidV_at {T w : Dt} {q : Ad} {j : Nat} (h : j < w.len) : (kidV T q w)[j]? = some (V.int (T.idx (q ++ [j]) : Nat)) := by
  unfold kidV
  rw [List.getElem?_map, List.getElem?_range h]
  rfl
theorem Dep.fork {T : Dt} {L : Lns} {n : Int} {p : Ad} {rs : List (List Int)} (d : Dep T L n p rs) {k : Nat} (hk : k < p.length) {w : Dt} (hw : sub T (p.take k) = some w) : p[k] < w.len := by
  obtain ⟨w', h1, _⟩ := d.lf
  have h2 := (sub_app T (p.take k) w hw (p.drop k)).1
  rw [List.take_append_drop, h1, List.drop_eq_getElem_cons hk] at h2
  obtain ⟨k', hk', _⟩ := sub_len h2.symm
  exact kid_lt hk'
def depD (n : Int) (i : Nat) (rs : List (List Int)) : PyData := .tuple [.int n, .int (i : Nat), .tuple (rs.map intsD)]
def spDepart (K : PySem.W.Frag) (C CS : Addr) : Sp := fun vs H Q _ => ∃ (a ta la sd : Addr) (S Ls : List Addr) (T : Dt) (L : Lns) (kv : List (Key × V)), vs = [.ref a] ∧ StE K C CS S H a ta la sd Ls T L kv ∧ T.ht < 20 ∧ Con T L ∧ Seat T L kv ∧ (∀ q, (L q).length ≤ 100000) ∧
  (L [] = [] → Q .non H) ∧
  (∀ n p rs i, Dep T L n p rs → (lv T)[i]? = some p → ∀ H' v, GoS (sd :: Ls) H H' → StE K C CS S H' a ta la sd Ls T (cutL p L) (dropK kv (Sum.inl n : Key)) → H v = none → Dp K (offS S H') (.ref v) (depD n i rs) → Q (.ref v) H')
theorem dps_tail {K : PySem.W.Frag} {H : Hp} {xs : List V} {l : List En} {e : En} (h : DpAll K H xs ((e :: l).map enD)) : ∃ b rv, xs = .ref b :: xs.tail ∧ DpAll K H xs.tail (l.map enD) ∧ SqT K H b [rv, .int e.2] ∧ Dp K H rv (intsD e.1) := by
  cases h with
  | cons h t =>
    cases h with
    | @tup b ys _ hs ha =>
      cases ha with
      | cons h1 ha =>
        cases ha with
        | cons h2 ha =>
          cases ha
          cases h2
          exact ⟨b, _, rfl, t, hs, h1⟩
theorem rk_tail {l : List En} {e : En} (h : RkOK (e :: l)) : RkOK l := fun y hy => h y (List.mem_cons_of_mem _ hy)
theorem asc_tail {l : List En} {e : En} (h : Asc1 (e :: l)) : Asc1 l := (List.pairwise_cons.mp (show ((e :: l).map (·.1)).Pairwise _ from h)).2
theorem dps_snoc' {K : PySem.W.Frag} {H : Hp} {xs : List V} {ds : List PyData} {v : V} {d : PyData} (h : DpAll K H xs ds) (g : Dp K H v d) : DpAll K H (xs ++ [v]) (ds ++ [d]) := dps_app h (.cons g .nil)
theorem seqIndex0 (n : Nat) : seqIndex? 0 (n + 1) = some 0 := by
  unfold seqIndex?
  simp
section
variable {P : Program} {w : World} {K : PySem.W.Frag} {mg : Str → Option Value} {base : Heap} {C CS U fG : Addr}
theorem ok_depart {f : Addr} {fd : FuncData} (F : Fun K "depart" "Standing.depart" s_Standing_depart f fd) (T0 : Txt K mg) (SC : StCl K CS) (TC : TCl K mg C fG) : FnOk P w K mg base CX0 5 f fd ["self"] (spDepart K C CS) := by
  refine F.ok sc_Standing_depart (fun vs H Q E h => ?_) (fun cdv A outer s H vs Q E hr h => ?_)
  · obtain ⟨a, ta, la, sd, S, Ls, T, L, kv, rfl, _⟩ := h
    rfl
  obtain ⟨a, ta, la, sd, S, Ls, T, L, kv, rfl, st, hht, con, seat, hL, q1, q2⟩ := h
  have hu := hu_of hr
  refine ⟨_, (pss_cons (ps_if (pt_not (pt_truth (pe_fld (pv 0) rfl) (by intro _; rfl))) 
      (pss_one (ps_ret pe_non)) pss_nil) 
    (pss_cons (ps_set (i := 1) sc_Standing_depart.nd rfl (.inl rfl) (pe_lst pa_nil)) 
    (pss_cons (ps_set (i := 2) sc_Standing_depart.nd rfl (.inl rfl) pe_int) 
    (pss_cons (ps_while PassesOwn.never (pt_truth (pe_ix ix_list (pe_fld (pe_fld (pv 0) rfl) rfl) (pv 2) (fun _ _ => rfl)) (by intro _; rfl)) 
      (pss_cons (ps_asg (pe_bm PySem.F.plainAttrs_list PySem.F.slot_list_pop PySem.F.type_list_pop mt_popAt (pe_ix ix_list (pe_fld (pv 0) rfl) (pv 2) (fun _ _ => rfl)) (pa_cons pe_int pa_nil)) (pg_tup (by rfl) (pgs_cons (pg_name (i := 3) sc_Standing_depart.nd rfl (Or.inl rfl)) (pgs_cons (pg_name (i := 4) sc_Standing_depart.nd rfl (Or.inl rfl)) pgs_nil)))) 
      (pss_cons (ps_expr (pe_bm PySem.F.plainAttrs_list PySem.F.slot_list_append PySem.F.type_list_append mt_append (pv 1) (pa_cons (pv 3) pa_nil))) 
      (pss_one (ps_set (i := 2) sc_Standing_depart.nd rfl (.inl rfl) (pe_ix ix_tup (pe_ix ix_list (pe_fld (pe_fld (pv 0) rfl) rfl) (pv 2) (fun _ _ => rfl)) (pv 4) (fun _ _ => rfl))))))) 
    (pss_cons (ps_asg (pe_bm PySem.F.plainAttrs_list PySem.F.slot_list_pop PySem.F.type_list_pop mt_popAt (pe_ix ix_list (pe_fld (pv 0) rfl) (pv 2) (fun _ _ => rfl)) (pa_cons pe_int pa_nil)) (pg_tup (by rfl) (pgs_cons (pg_name (i := 3) sc_Standing_depart.nd rfl (Or.inl rfl)) (pgs_cons (pg_name (i := 5) sc_Standing_depart.nd rfl (Or.inl rfl)) pgs_nil)))) 
    (pss_cons (ps_expr (pe_bm PySem.F.plainAttrs_list PySem.F.slot_list_append PySem.F.type_list_append mt_append (pv 1) (pa_cons (pv 3) pa_nil))) 
    (pss_cons (ps_set (i := 6) sc_Standing_depart.nd rfl (.inl rfl) (pe_dpop1 (pe_fld (pv 0) rfl) (pv 5) ⟨rfl, rfl, rfl, rfl⟩)) 
    (pss_one (ps_ret (pe_tup (pa_cons (pv 5) (pa_cons (pv 6) (pa_cons (pe_callTy call_tuple_of (by rfl) T0.tuple PyProof.Rows.boot_tuple (pa_cons (pv 1) pa_nil)) pa_nil))))))))))))), ?_⟩
  obtain ⟨dx, hob⟩ := st.obj
  refine ⟨_, rfl, a, CS, dx, _, _, rfl, hob, SC.cl, SC.nS, rfl, !kv.isEmpty, .inr (.inr ⟨kv, st.se, rfl⟩), ?_⟩
  by_cases he : L [] = []
  · have := (seat_empty seat con).mpr he
    subst this
    refine iteT ?_
    exact q1 he
  have hkn : kv.isEmpty = false := by
    cases kv with
    | nil => exact absurd ((seat_empty seat con).mp rfl) he
    | cons _ _ => rfl
  rw [hkn]
  refine iteF ?_
  obtain ⟨n, p, rs, d⟩ := dep_ex _ T L (Nat.le_refl _) con he
  have hp := dep_lv d
  have hpth := ht_path hp
  obtain ⟨i, hi⟩ := List.mem_iff_getElem?.mp hp
  refine ⟨(by show 0 ≤ sizeLine; decide), fun rl hrl => ?_⟩
  have st1 := st.with (v := .lst []) hrl
  have hrlS : rl ∉ sd :: Ls := fun z => st.al rl (st.sub rl z) hrl
  have hrlm : rl ∈ rl :: S := List.mem_cons_self ..
  have g1 : GoS (sd :: Ls) H (upd H rl (.lst [])) := GoS.refl.new hrl
  have hr1 : (upd H rl (.lst [])) rl = some (.lst []) := upd_same
  revert st1 g1 hr1
  generalize upd H rl (.lst []) = H1
  intro st1 g1 hr1
  refine ⟨fun m σ H' => ∃ (k : Nat) (o3 o4 : Option V) (vs : List V), σ = [some (.ref a), some (.ref rl), some (.int (T.idx (p.take k) : Nat)), o3, o4, none, none] ∧ m = p.length - k ∧ k ≤ p.length ∧ GoS (sd :: Ls) H H' ∧ StE K C CS (rl :: S) H' a ta la sd Ls T (cutK p L k) kv ∧ H' rl = some (.lst vs) ∧ DpAll K (offS (rl :: S) H') vs ((rs.take k).map intsD),
    ⟨p.length, 0, none, none, [], by rw [List.take_zero, idx_nil]; rfl, rfl, Nat.zero_le _, g1, by rw [cutK_zero]; exact st1, hr1, .nil⟩, ?_⟩
  rintro m σ H2 ⟨k, o3, o4, vs, rfl, rfl, hk, g2, st2, hr2, hv2⟩
  obtain ⟨dx2, hob2⟩ := st2.obj
  have hq : p.take k ∈ ad T := pre_ad (lv_ad hp) (List.take_prefix ..)
  obtain ⟨dx', fv, LL, SS, h1, h2, h3, h4⟩ := st2.tree
  obtain ⟨v2, e2, u, b2, hu2, rfl, hb2⟩ := h2.node (k := 2) (by decide) hq
  obtain ⟨l, xs, k1, k2, k3⟩ := st2.li _ hq
  rw [cutK_at p L k hk] at k3
  have hlM : l ∈ sd :: Ls := List.mem_cons_of_mem _ (List.mem_of_getElem? k1)
  have nrl : rl ≠ l := fun z => hrlS (by rw [z]; exact hlM)
  refine ⟨_, rfl, a, CS, dx2, _, _, rfl, hob2, SC.cl, SC.nT, rfl, ta, C, dx', _, _, rfl, h1.ob, TC.cl, TC.n2, stF_2 _ _, _, rfl, LL 2, _, _, _, rfl, rfl, SqL.of (h1.ls 2 (by decide)), e2, ?_⟩
  refine ⟨!(kidV T (p.take k) u).isEmpty, .inr (.inl ⟨_, hb2, rfl⟩), ?_⟩
  have hkl : (kidV T (p.take k) u).length = u.len := by unfold kidV; rw [List.length_map, List.length_range]
  have hvl := dps_len hv2
  rw [List.length_map, List.length_take, d.len] at hvl
  -- the entry that is taken away
  have take1 : ∀ r nn t, L (p.take k) = (r, nn) :: t → rs[k]? = some r → ∃ b rv, xs = .ref b :: xs.tail ∧ DpAll K (offS (rl :: S) H2) xs.tail (t.map enD) ∧ SqT K (offS (rl :: S) H2) b [rv, .int nn] ∧ Dp K (offS (rl :: S) H2) rv (intsD r) ∧ ∃ H3, H3 = upd (upd H2 l (.lst xs.tail)) rl (.lst (vs ++ [rv])) ∧ GoS (sd :: Ls) H H3 ∧ StE K C CS (rl :: S) H3 a ta la sd Ls T (cutK p L (k + 1)) kv ∧ H3 rl = some (.lst (vs ++ [rv])) ∧ DpAll K (offS (rl :: S) H3) (vs ++ [rv]) ((rs.take (k + 1)).map intsD) := by
    intro r nn t hLt hrk
    rw [hLt] at k3
    obtain ⟨b, rv, x1, x2, x3, x4⟩ := dps_tail k3
    have ak := st.pw (p.take k)
    have rk := st.rk (p.take k)
    rw [hLt] at ak rk
    have s3 := (st2.setL hq k1 x2 (rk_tail rk) (asc_tail ak)).mut (p := rl) (v := .lst (vs ++ [rv])) hrlm hrlS
    have gg : GoS (rl :: S) H2 (upd (upd H2 l (.lst xs.tail)) rl (.lst (vs ++ [rv]))) := (GoS.refl.upd (List.mem_cons_of_mem _ (st.sub l hlM))).upd hrlm
    refine ⟨b, rv, x1, x2, x3, x4, _, rfl, (g2.upd hlM).mutNew hrl, ?_, upd_same, ?_⟩
    · rw [cutK_succ p L k hk, hLt]
      exact s3
    · rw [List.take_add_one, hrk, Option.toList_some, List.map_append]
      exact dps_same gg.s (dps_snoc' hv2 x4)
  refine ite2 (fun hc => ?_) (fun hc => ?_)
  · have hul : u.len ≠ 0 := fun z => by
      rw [List.eq_nil_of_length_eq_zero (hkl.trans z)] at hc
      exact nomatch hc
    have hkp : k < p.length := by
      refine Nat.lt_of_le_of_ne hk fun z => ?_
      obtain ⟨w', z1, z2⟩ := d.lf
      rw [z, List.take_length, z1] at hu2
      rw [← Option.some.inj hu2] at hul
      exact hul z2
    obtain ⟨r, t, hLt, hrk⟩ := d.hd k p[k] (List.getElem?_eq_getElem hkp)
    obtain ⟨b, rv, x1, x2, x3, x4, H3, hH3, g3, st3, hr3, hv3⟩ := take1 r _ t hLt hrk
    refine ⟨_, fun _ _ z => z, ?_⟩
    have hxl : xs.length = xs.tail.length + 1 := by rw [x1]; rfl
    have hx0 : xs[0]? = some (.ref b) := by rw [x1]; rfl
    have hxe : xs.eraseIdx 0 = xs.tail := by cases xs <;> rfl
    refine ⟨_, rfl, a, CS, dx2, _, _, rfl, hob2, SC.cl, SC.nL, rfl, _, rfl, la, _, _, _, rfl, rfl, SqL.of st2.lst, (atI_nat (by rw [List.getElem?_map, k1]; rfl)), ?_⟩
    refine ⟨.inl ⟨rfl, _, SqL.of k2⟩, ?_⟩
    refine ⟨l, xs, 0, 0, .ref b, rfl, rfl, k2, by decide, by decide, (by rw [hxl]; exact seqIndex0 _), hx0, ?_⟩
    rw [hxe]
    have gA : GoS (rl :: S) H2 (upd H2 l (.lst xs.tail)) := GoS.refl.upd (List.mem_cons_of_mem _ (st.sub l hlM))
    refine ⟨b, _, rfl, same_sqt offS_same (same_sqt gA.s x3), rfl, ?_⟩
    refine ⟨_, _, rfl, _, _, rfl, rfl, ?_⟩
    have hrA : (upd H2 l (.lst xs.tail)) rl = some (.lst vs) := by rw [upd_ne nrl]; exact hr2
    refine ⟨_, rfl, .inl ⟨rfl, _, SqL.of hrA⟩, ?_⟩
    refine ⟨_, rfl, rl, vs, _, rfl, rfl, hrA, small1000 (by have := hht; omega), ?_⟩
    rw [← hH3]
    obtain ⟨dx3, hob3⟩ := st3.obj
    obtain ⟨dy', fv', LL', SS', y1, y2, y3, y4⟩ := st3.tree
    obtain ⟨w2, f2, u', b3, hu3, rfl, hb3⟩ := y2.node (k := 2) (by decide) hq
    rw [hu2] at hu3
    obtain rfl := Option.some.inj hu3
    have hpk := d.fork hkp hu2
    refine ⟨_, rfl, a, CS, dx3, _, _, rfl, hob3, SC.cl, SC.nT, rfl, ta, C, dy', _, _, rfl, y1.ob, TC.cl, TC.n2, stF_2 _ _, _, rfl, LL' 2, _, _, _, rfl, rfl, SqL.of (y1.ls 2 (by decide)), f2, ?_⟩
    refine ⟨_, rfl, b3, _, _, _, rfl, rfl, hb3, atI_nat (kidV_at hpk), ?_⟩
    refine ⟨p.length - (k + 1), by omega, k + 1, some rv, some (.int (p[k] : Nat)), _, ?_, rfl, by omega, g3, st3, hr3, hv3⟩
    rw [List.take_succ_eq_append_getElem hkp]
    rfl
  · have hul : u.len = 0 := by
      rw [← hkl]
      cases z : kidV T (p.take k) u with
      | nil => rfl
      | cons _ _ =>
        rw [z] at hc
        exact absurd rfl hc
    have hkp : p.take k = p := by
      have h5 := (sub_app T (p.take k) u hu2 (p.drop k)).1
      obtain ⟨w', z1, _⟩ := d.lf
      rw [List.take_append_drop, z1] at h5
      cases z : p.drop k with
      | nil =>
        rw [List.drop_eq_nil_iff] at z
        exact List.take_of_length_le z
      | cons j q =>
        rw [z] at h5
        obtain ⟨k', hk', _⟩ := sub_len h5.symm
        have := kid_lt hk'
        omega
    have hke : k = p.length := by
      have := congrArg List.length hkp
      rw [List.length_take] at this
      omega
    obtain ⟨r, t, hLt, hrk⟩ := d.la
    rw [← hke] at hrk
    have hLt' : L (p.take k) = (r, n) :: t := by rw [hkp]; exact hLt
    obtain ⟨b, rv, x1, x2, x3, x4, H3, hH3, g3, st3, hr3, hv3⟩ := take1 r n t hLt' hrk
    have hxl : xs.length = xs.tail.length + 1 := by rw [x1]; rfl
    have hx0 : xs[0]? = some (.ref b) := by rw [x1]; rfl
    have hxe : xs.eraseIdx 0 = xs.tail := by cases xs <;> rfl
    refine ⟨_, rfl, a, CS, dx2, _, _, rfl, hob2, SC.cl, SC.nL, rfl, _, rfl, la, _, _, _, rfl, rfl, SqL.of st2.lst, (atI_nat (by rw [List.getElem?_map, k1]; rfl)), ?_⟩
    refine ⟨.inl ⟨rfl, _, SqL.of k2⟩, ?_⟩
    refine ⟨l, xs, 0, 0, .ref b, rfl, rfl, k2, by decide, by decide, (by rw [hxl]; exact seqIndex0 _), hx0, ?_⟩
    rw [hxe]
    have gA : GoS (rl :: S) H2 (upd H2 l (.lst xs.tail)) := GoS.refl.upd (List.mem_cons_of_mem _ (st.sub l hlM))
    refine ⟨b, _, rfl, same_sqt offS_same (same_sqt gA.s x3), rfl, ?_⟩
    refine ⟨_, _, rfl, _, _, rfl, rfl, ?_⟩
    have hrA : (upd H2 l (.lst xs.tail)) rl = some (.lst vs) := by rw [upd_ne nrl]; exact hr2
    refine ⟨_, rfl, .inl ⟨rfl, _, SqL.of hrA⟩, ?_⟩
    refine ⟨_, rfl, rl, vs, _, rfl, rfl, hrA, small1000 (by have := hht; omega), ?_⟩
    rw [← hH3]
    obtain ⟨dx3, hob3⟩ := st3.obj
    have hin : n ∈ its (L p) := by rw [hLt]; exact List.mem_cons_self ..
    refine ⟨_, rfl, a, CS, dx3, _, _, rfl, hob3, SC.cl, SC.nS, rfl, sd, rfl, .inl ⟨kv, .inl st3.se⟩, _, rfl, kv, (Sum.inl n : Key), _, st3.se, rfl, seat.to n i p hi hin, ?_⟩
    have st4 := st3.setS (dropK kv (Sum.inl n : Key))
    have hsdS : sd ∈ S := st.sub sd (List.mem_cons_self ..)
    have nsd : rl ≠ sd := fun z => hrlS (by rw [z]; exact List.mem_cons_self ..)
    have g4 : GoS (sd :: Ls) H (upd H3 sd (.dK (dropK kv (Sum.inl n : Key)))) := g3.upd (List.mem_cons_self ..)
    have gB : GoS (rl :: S) H3 (upd H3 sd (.dK (dropK kv (Sum.inl n : Key)))) := GoS.refl.upd (List.mem_cons_of_mem _ hsdS)
    have hr4 : (upd H3 sd (.dK (dropK kv (Sum.inl n : Key)))) rl = some (.lst (vs ++ [rv])) := by rw [upd_ne nsd]; exact hr3
    have hv4 := dps_same gB.s hv3
    revert st4 g4 gB hr4 hv4
    generalize upd H3 sd (.dK (dropK kv (Sum.inl n : Key))) = H4
    intro st4 g4 gB hr4 hv4
    refine ⟨_, rfl, _, rfl, _, rfl, rl, _, rfl, .inl ⟨SqL.of hr4, fun tt htt => ⟨(by show 3 ≤ sizeLine; decide), fun v hv => ?_⟩⟩⟩
    have s5 : Same H4 (upd H4 tt (.tup (vs ++ [rv]))) := same_new htt
    have s6 : Same H4 (upd (upd H4 tt (.tup (vs ++ [rv]))) v (.tup [.int n, .int (i : Nat), .ref tt])) := s5.trans (same_new hv)
    have hl4 : (rs.take (k + 1)) = rs := List.take_of_length_le (by rw [d.len]; omega)
    rw [hl4] at hv4
    have httS : tt ∉ rl :: S := fun z => st4.al tt z htt
    have hvS : v ∉ rl :: S := fun z => st4.al v z (s5.free hv)
    have ntv : tt ≠ v := fun z => by
      rw [z, ← z, upd_same] at hv
      exact nomatch hv
    have fin := ((st4.same s6).shrink (S := S) (fun y hy => List.mem_cons_of_mem _ hy) st.sub)
    rw [hke, cutK_full] at fin
    refine q2 n p rs i d hi _ v (g4.trans (GoS.of s6)) fin (g4.free (s5.free hv)) ?_
    refine dp_same (offS_sub (S := S) (S' := rl :: S) fun y hy => List.mem_cons_of_mem _ hy) ?_
    have g6 : Same (offS (rl :: S) H4) (offS (rl :: S) (upd (upd H4 tt (.tup (vs ++ [rv]))) v (.tup [.int n, .int (i : Nat), .ref tt]))) := (GoS.of s6).s
    refine .tup (SqT.of (by rw [offS_ne hvS]; exact upd_same)) (.cons (.int _) (.cons (.int _) (.cons (.tup (SqT.of ?_) (dps_same g6 hv4)) .nil)))
    rw [offS_ne httS, upd_ne ntv]
    exact upd_same
end
end K65
set_option Elab.async false
set_option linter.all false
set_option maxRecDepth 100000
set_option maxHeartbeats 4000000
namespace L2
open PySem PySem.Spec PyProof.Rows
section
variable {X : Cx}
/-- xs[i] op= e: the read -/
theorem pg_getL : PGet X (rIxL X.K) := by
  intro pins s σ H x y v u Q I rx ry h
  obtain ⟨p, xs, i, z, rfl, rfl, hq, he, q⟩ := h
  cases rx
  obtain ⟨t, rfl⟩ := ry
  obtain ⟨its, r, pl, hz⟩ := I.list hq
  obtain ⟨j, h1, h2, h3, h4, h5⟩ := atI_get he
  obtain ⟨w, ew, rw'⟩ := r.get h2
  have hl := r.length
  have hn := line63
  have fin : EP X pins σ Q w s := ⟨z, H, I, rw', q⟩
  by_cases h0 : 0 ≤ i
  · have hj : i.toNat = j := by
      rw [seqIndex_of h0 h5] at h1
      exact Option.some.inj h1
    exact wpAny_getItem_list pl.isList h0 (by omega) (by rw [hj]; simpa using ew) fin
  · have hj : (i + (its.toArray.size : Int)).toNat = j := by
      rw [seqIndex_neg (by omega) h4] at h1
      rw [List.size_toArray, ← hl]
      exact Option.some.inj h1
    exact wpAny_getItem_list_neg pl.isList (by omega) (by rw [List.size_toArray] <;> omega) (by omega) (by rw [hj]; simpa using ew) fin
end
end L2
namespace K65
open PySem PySem.Spec PyProof.Rows L2 Dt
theorem mrg_at : ∀ (i : Nat) (cs : List Nat) (f : Nat → List Int) (j : Nat), Enough cs f → cs[i]? = some j → ∃ z, (mrg cs f)[i]? = some z ∧ (f j)[(cs.take i).count j]? = some z
  | _, [], _, _, _, h => by simp at h
  | 0, a :: cs, f, j, hn, h => by
    obtain rfl : a = j := by simpa using h
    obtain ⟨y, t, ey⟩ := hn.head
    refine ⟨y, ?_, ?_⟩
    · show ((f a).headD 0 :: mrg cs (dropAt f a))[0]? = _
      rw [ey]
      rfl
    · rw [ey]
      rfl
  | i + 1, a :: cs, f, j, hn, h => by
    obtain ⟨z, h1, h2⟩ := mrg_at i cs (dropAt f a) j hn.tail (by simpa using h)
    refine ⟨z, h1, ?_⟩
    rw [List.take_succ_cons]
    unfold dropAt at h2
    by_cases e : j = a
    · subst e
      rw [if_pos rfl] at h2
      rw [List.count_cons_self]
      rw [List.getElem?_tail] at h2
      exact h2
    · rw [if_neg e] at h2
      rw [List.count_cons_of_ne (Ne.symm e)]
      exact h2
/-- the lines of a standing, to read -/
structure RdS (K : PySem.W.Frag) (C : Addr) (H : Hp) (ta la : Addr) (Ls : List Addr) (T : Dt) (L : Lns) : Prop where
  tr : Tree K H C ta T
  ln : H la = some (.lst (Ls.map V.ref))
  li : ∀ q ∈ ad T, ∃ l xs, Ls[T.idx q]? = some l ∧ H l = some (.lst xs) ∧ DpAll K H xs ((L q).map enD)
theorem RdS.same {K : PySem.W.Frag} {C : Addr} {H H' : Hp} {ta la : Addr} {Ls : List Addr} {T : Dt} {L : Lns} (r : RdS K C H ta la Ls T L) (e : Same H H') : RdS K C H' ta la Ls T L :=
  ⟨r.tr.same e, e _ _ r.ln, fun q hq => by
    obtain ⟨l, xs, h1, h2, h3⟩ := r.li q hq
    exact ⟨l, xs, h1, e _ _ h2, dps_same e h3⟩⟩
theorem StE.rd {K : PySem.W.Frag} {C CS : Addr} {S : List Addr} {H : Hp} {a ta la sd : Addr} {Ls : List Addr} {T : Dt} {L : Lns} {kv : List (Key × V)} (s : StE K C CS S H a ta la sd Ls T L kv) : RdS K C H ta la Ls T L :=
  ⟨s.tree, s.lst, fun q hq => by
    obtain ⟨l, xs, h1, h2, h3⟩ := s.li q hq
    exact ⟨l, xs, h1, h2, dps_same offS_same h3⟩⟩
def at_ (q : Ad) (L : Lns) : Lns := fun r => L (q ++ r)
theorem at_nil (q : Ad) (L : Lns) : at_ q L [] = L q := by
  unfold at_
  rw [List.append_nil]
theorem Con.at {T u : Dt} {L : Lns} {q : Ad} (h : Con T L) (hq : sub T q = some u) : Con u (at_ q L) :=
  ⟨fun r w hr => h.it (q ++ r) w (by rw [(sub_app T q u hq r).1]; exact hr), fun r w j hr hj => by
    have := h.ct (q ++ r) w j (by rw [(sub_app T q u hq r).1]; exact hr) hj
    rw [List.append_assoc] at this
    exact this⟩
theorem sh_at (q : Ad) (L : Lns) (j : Nat) : sh j (at_ q L) = at_ (q ++ [j]) L := by
  funext r
  unfold sh at_
  rw [List.append_assoc]
  rfl
theorem dps_en {K : PySem.W.Frag} {H : Hp} {xs : List V} {l : List En} (h : DpAll K H xs (l.map enD)) {i : Nat} {v : V} (hv : xs[i]? = some v) : ∃ e b rv, l[i]? = some e ∧ v = .ref b ∧ SqT K H b [rv, .int e.2] ∧ Dp K H rv (intsD e.1) := by
  obtain ⟨d, h1, h2⟩ := dps_at h hv
  rw [List.getElem?_map] at h1
  obtain ⟨e, h3, rfl⟩ := Option.map_eq_some_iff.mp h1
  cases h2 with
  | @tup b ys _ hs ha =>
    cases ha with
    | cons g1 ha =>
      cases ha with
      | cons g2 ha =>
        cases ha
        cases g2
        exact ⟨e, b, _, h3, rfl, hs, g1⟩
theorem ix_tupK {X : Cx} {K : PySem.W.Frag} (hK : X.K = K) : IxR X (rIxT K) := by
  subst hK
  exact ix_tup
def countV (cs : List Nat) (m : Nat) : List V := (List.range m).map fun j => V.int (cs.count j : Nat)
theorem countV_at {cs : List Nat} {m j : Nat} (h : j < m) : (countV cs m)[j]? = some (V.int (cs.count j : Nat)) := by
  unfold countV
  rw [List.getElem?_map, List.getElem?_range h]
  rfl
theorem countV_len (cs : List Nat) (m : Nat) : (countV cs m).length = m := by
  unfold countV
  rw [List.length_map, List.length_range]
theorem countV_zero (m : Nat) : (List.replicate m [V.int 0]).flatten = countV [] m := by
  unfold countV
  induction m with
  | zero => rfl
  | succ m ih =>
    rw [List.replicate_succ', List.flatten_append, ih, List.range_succ, List.map_append]
    rfl
theorem countV_snoc {cs : List Nat} {m j : Nat} (h : j < m) : (countV cs m).set j (V.int ((cs.count j : Nat) + 1)) = countV (cs ++ [j]) m := by
  refine List.ext_getElem? fun i => ?_
  by_cases hi : i < m
  · rw [countV_at hi]
    by_cases e : j = i
    · subst e
      rw [List.getElem?_set_self (by rw [countV_len]; exact hi), List.count_append, List.count_singleton_self]
      rfl
    · rw [List.getElem?_set_ne e, countV_at hi, List.count_append, List.count_cons_of_ne (a := i) (b := j) e]
      rfl
  · rw [List.getElem?_eq_none (by rw [List.length_set, countV_len]; omega), List.getElem?_eq_none (by rw [countV_len]; omega)]
def spOrderAt (K : PySem.W.Frag) (C : Addr) (n : Nat) : Sp := fun vs H Q _ => ∃ (ta la : Addr) (Ls : List Addr) (T u : Dt) (L : Lns) (q : Ad), vs = [.ref ta, .ref la, .int (T.idx q : Nat)] ∧ RdS K C H ta la Ls T L ∧ Con T L ∧ sub T q = some u ∧ u.ht < n ∧ u.len ≤ 1000 ∧ (∀ q, (L q).length ≤ 100000) ∧
  ∀ H' p, Same H H' → H p = none → H' p = some (.lst ((ord u (at_ q L)).map V.int)) → Q (.ref p) H'
section
variable {P : Program} {w : World} {K : PySem.W.Frag} {mg : Str → Option Value} {base : Heap} {C CS U fG : Addr}
end
end K65
set_option Elab.async false
set_option linter.all false
set_option maxRecDepth 100000
set_option maxHeartbeats 4000000
namespace K65
open PySem PySem.Spec PyProof.Rows L2 Dt
theorem kit_self {K : PySem.W.Frag} {U : Addr} : PySem.W.kitOne K (.ref U) (.ref U) = some true := by
  unfold PySem.W.kitOne
  rw [if_pos (by simp)]
/-- what isinstance asks of the class -/
structure IsS (K : PySem.W.Frag) (mg : Str → Option Value) (CS : Addr) : Prop where
  mg : mg "Standing" = some (.ref CS)
  no : ∀ t, (t = "int" ∨ t = "bool" ∨ t = "NoneType" ∨ t = "str" ∨ t = "tuple" ∨ t = "list") → PySem.W.kitOne K (.type t) (.ref CS) = some false
  f1 : PySem.W.findIn K (.ref CS) "__class__" = some (some (.builtin "object.__class__"))
  f2 : PySem.W.specialIn K (.builtin "object.__class__") "__get__" = some (some (.builtin "getset_descriptor.__get__"))
  f3 : PySem.W.takesIn K (.builtin "object.__class__") = some true
  f4 : PySem.W.mroIn K CS (.type "object") = some true
theorem mrg_all : ∀ (cs : List Nat) (f : Nat → List Int), (∀ j, cs.count j = (f j).length) → ∀ j, ∀ y ∈ f j, y ∈ mrg cs f
  | [], f, h, j, y, hy => by
    have := h j
    have e : f j = [] := List.eq_nil_of_length_eq_zero (by rw [← this]; rfl)
    rw [e] at hy
    exact nomatch hy
  | a :: cs, f, h, j, y, hy => by
    have ha := h a
    rw [List.count_cons_self] at ha
    obtain ⟨z, t, ez⟩ : ∃ z t, f a = z :: t := by
      cases e : f a with
      | nil =>
        rw [e] at ha
        exact absurd ha (by simp)
      | cons z t => exact ⟨z, t, rfl⟩
    show y ∈ (f a).headD 0 :: mrg cs (dropAt f a)
    have ih := mrg_all cs (dropAt f a) (fun i => by
      unfold dropAt
      by_cases e : i = a
      · subst e
        rw [if_pos rfl, List.length_tail]
        omega
      · rw [if_neg e, ← h i, List.count_cons_of_ne (Ne.symm e)]) j y
    by_cases e : j = a
    · subst e
      rw [ez] at hy
      rcases List.mem_cons.mp hy with rfl | hy
      · rw [ez]
        exact List.mem_cons_self ..
      · refine List.mem_cons_of_mem _ (ih ?_)
        unfold dropAt
        rw [if_pos rfl, ez]
        exact hy
    · refine List.mem_cons_of_mem _ (ih ?_)
      unfold dropAt
      rw [if_neg e]
      exact hy
theorem ordC_out {u : Dt} {L : Lns} {j : Nat} (h : ¬ j < u.len) : ordC u L j = [] := by
  unfold ordC
  rw [List.getD_eq_getElem?_getD, List.getElem?_eq_none (by rw [ordK_len]; omega)]
  rfl
theorem mem_ord : ∀ (p : Ad) (u w : Dt) (L : Lns), Con u L → sub u p = some w → w.len = 0 → ∀ n ∈ its (L p), n ∈ ord u L
  | [], u, w, L, cn, h, hw, n, hn => by
    rw [sub_nil] at h
    obtain rfl := Option.some.inj h
    rw [ord_leaf hw]
    exact hn
  | j :: p, u, w, L, cn, h, hw, n, hn => by
    obtain ⟨k, hk, hk2⟩ := sub_len h
    have hj := kid_lt hk
    have hl : u.len ≠ 0 := by omega
    have ih := mem_ord p k w (sh j L) (cn.kid hk) hk2 hw n hn
    rw [ord_fork hl]
    refine mrg_all _ _ (fun i => ?_) j n (by rw [ordC_at hk]; exact ih)
    by_cases hi : i < u.len
    · exact cn.exact hi
    · rw [ordC_out hi, List.count_eq_zero.mpr fun z => hi (cn.chs_lt hl i z)]
      rfl
theorem ht_le : ∀ {q : Ad} {T u : Dt}, sub T q = some u → u.ht ≤ T.ht
  | [], T, u, h => by
    rw [sub_nil] at h
    rw [Option.some.inj h]
    exact Nat.le_refl _
  | j :: q, T, u, h => by
    obtain ⟨k, hk, h2⟩ := sub_len h
    have h3 := ht_le h2
    have h4 := ht_kid T j k hk
    omega
def linesD (T : Dt) (L : Lns) : PyData := .tuple ((ad T).map fun q => .tuple ((L q).map enD))
def spOrder (K : PySem.W.Frag) (C CS : Addr) : Sp := fun vs H Q _ => ∃ (a ta la sd : Addr) (S Ls : List Addr) (T : Dt) (L : Lns) (kv : List (Key × V)), vs = [.ref a] ∧ StE K C CS S H a ta la sd Ls T L kv ∧ T.ht < 20 ∧ Con T L ∧ (∀ q, (L q).length ≤ 100000) ∧
  ∀ H' p, Same H H' → H p = none → H' p = some (.tup ((ord T L).map V.int)) → Q (.ref p) H'
def spAllL (K : PySem.W.Frag) (C CS : Addr) : Sp := fun vs H Q _ => ∃ (a ta la sd : Addr) (S Ls : List Addr) (T : Dt) (L : Lns) (kv : List (Key × V)), vs = [.ref a] ∧ StE K C CS S H a ta la sd Ls T L kv ∧
  ∀ H' p, Same H H' → H p = none → Dp K (offS S H') (.ref p) (linesD T L) → Q (.ref p) H'
/-- a standing, or a value of a plain kind -/
def StV (K : PySem.W.Frag) (CS : Addr) (H : Hp) (x : V) (g : Bool) : Prop := (g = true ∧ ∃ a dx fs, x = .ref a ∧ H a = some (.ins CS dx fs)) ∨ (g = false ∧ ∃ t, KindV K H x t)
def spNeedSt (K : PySem.W.Frag) (CS U : Addr) : Sp := fun vs H Q E => ∃ (x : V) (z : Str) (g : Bool), vs = [x, .str z] ∧ StV K CS H x g ∧ (g = true → Q .non H) ∧ (g = false → ∀ H', Same H H' → Out U z H' E)
def spOrderOf (K : PySem.W.Frag) (C CS U : Addr) : Sp := fun vs H Q E => ∃ (x y : V) (g : Bool), vs = [x, y] ∧ StV K CS H x g ∧ (g = false → ∀ H', Same H H' → Out U "standing" H' E) ∧
  (g = true → ∃ (a ta la sd : Addr) (S Ls : List Addr) (T : Dt) (L : Lns) (kv : List (Key × V)) (o : Option Int), x = .ref a ∧ StE K C CS S H a ta la sd Ls T L kv ∧ T.ht < 20 ∧ Con T L ∧ (∀ q, (L q).length ≤ 100000) ∧ NumV K H y o ∧
    (belowB (T.nodes : Nat) o = false → ∀ H', Same H H' → Out U "node" H' E) ∧
    (∀ q u, o = some (T.idx q : Nat) → sub T q = some u → ∀ H' p, Same H H' → H p = none → H' p = some (.tup ((ord u (at_ q L)).map V.int)) → Q (.ref p) H'))
def spPlaceOf (K : PySem.W.Frag) (C CS U : Addr) : Sp := fun vs H Q E => ∃ (x y z : V) (g : Bool), vs = [x, y, z] ∧ StV K CS H x g ∧ (g = false → ∀ H', Same H H' → Out U "standing" H' E) ∧
  (g = true → ∃ (a ta la sd : Addr) (S Ls : List Addr) (T : Dt) (L : Lns) (kv : List (Key × V)) (o on : Option Int), x = .ref a ∧ StE K C CS S H a ta la sd Ls T L kv ∧ T.ht < 20 ∧ Con T L ∧ Seat T L kv ∧ (∀ q, (L q).length ≤ 100000) ∧ NumV K H y o ∧ NumV K H z on ∧
    (belowB (T.nodes : Nat) o = false → ∀ H', Same H H' → Out U "node" H' E) ∧
    (∀ q u, o = some (T.idx q : Nat) → sub T q = some u → belowB packB on = false → ∀ H', Same H H' → Out U "number" H' E) ∧
    (∀ q u n, o = some (T.idx q : Nat) → sub T q = some u → on = some n → belowB packB on = true → n ∉ ord u (at_ q L) → ∀ H', Same H H' → Out U "number" H' E) ∧
    (∀ q u n (j : Nat), o = some (T.idx q : Nat) → sub T q = some u → on = some n → (ord u (at_ q L))[j]? = some n → (∀ i, i < j → (ord u (at_ q L))[i]? ≠ some n) → ∀ H', Same H H' → Q (.int (j : Nat)) H'))
def spWithin (K : PySem.W.Frag) (C : Addr) : Sp := fun vs H Q E => ∃ a T p q, vs = [.ref a, .int (T.idx q : Nat), .int (T.idx p : Nat)] ∧ Tree K H C a T ∧ p ∈ ad T ∧ q ∈ ad T ∧ Q (.bl (decide (p <+: q))) H
section
variable {P : Program} {w : World} {K : PySem.W.Frag} {mg : Str → Option Value} {base : Heap} {C CS U fG : Addr}
theorem ok_need_node (D : DefAt K mg "need_node" s_need_node ["tree", "node", "word"]) (T : Txt K mg) (TC : TCl K mg C fG) (GB : CalX P w K mg base CX0 3 "is_below" ["thing", "bound"] (spBelow K)) (GN : CalX P w K mg base (L2.CX P w) 3 "need" ["fits", "word"] (spNeed U)) :
    CalX P w K mg base (L2.CX P w) 4 "need_node" ["tree", "node", "word"] (spNeedNode K C U) := by
  refine D.okX sc_need_node (fun vs H Q E h => ?_) (fun f cdv A outer s H vs Q E hr h => ?_)
  · obtain ⟨a, x, o, t, z, rfl, _⟩ := h
    rfl
  obtain ⟨a, x, o, t, z, rfl, ⟨dx, fv, L, S, hT, hF, hV, h1⟩, hx, q1, q2⟩ := h
  refine ⟨_, pss_one (ps_expr (pe_cx GN hr (by decide) rfl (passes_call (takes_of rfl rfl rfl rfl) (fun _ _ _ _ h => h)) (pa_cons (pe_c0 GB hr (by decide) rfl (pa_cons (pv 1) (pa_cons (pe_callB call_len_seq (by rfl) T.len PySem.boot_len (pa_cons (pe_fld (pv 0) rfl) pa_nil)) pa_nil))) (pa_cons (pv 2) pa_nil)))), ?_⟩
  refine ⟨_, rfl, _, rfl, a, C, dx, _, _, rfl, hT.ob, TC.cl, TC.n2, stF_2 _ _, L 2, _, rfl, .inl (SqL.of (hT.ls 2 (by decide))), ?_⟩
  rw [hF.len (k := 2) (by decide)]
  exact ⟨x, o, _, rfl, hx, _, rfl, _, z, rfl, q1, q2⟩
theorem ok_allL {f : Addr} {fd : FuncData} (F : Fun K "all_lines" "Standing.all_lines" s_Standing_all_lines f fd) (T0 : Txt K mg) (SC : StCl K CS) : FnOk P w K mg base CX0 1 f fd ["self"] (spAllL K C CS) := by
  refine F.ok sc_Standing_all_lines (fun vs H Q E h => ?_) (fun cdv A outer s H vs Q E hr h => ?_)
  · obtain ⟨a, ta, la, sd, S, Ls, T, L, kv, rfl, _⟩ := h
    rfl
  obtain ⟨a, ta, la, sd, S, Ls, T, L, kv, rfl, st, q⟩ := h
  refine ⟨_, pss_one (ps_ret (pe_callTy call_tuple_of (by rfl) T0.tuple PyProof.Rows.boot_tuple (pa_cons (pe_lc (own := [("line", 1)]) (g := gName 1) (tt := tYes) (by rfl) sc_Standing_all_lines.nd (pi_list (pe_fld (pv 0) rfl)) (blkOk_by (own := [("line", 1)]) (N := N_Standing_all_lines) (sc := defScope s_Standing_all_lines) (by decide +kernel)) (fun _ _ _ _ _ => pg_name (i := 1) sc_Standing_all_lines.nd rfl (Or.inl rfl)) (fun _ _ _ _ _ => pts_nil) (fun _ _ _ _ _ => by exact (pe_callTy (call_tuple_ofK (K := K) (by exact rfl)) (by rfl) T0.tuple PyProof.Rows.boot_tuple (pa_cons (pv 1) pa_nil)))) pa_nil))), ?_⟩
  obtain ⟨dx, hob⟩ := st.obj
  obtain ⟨_, _, _, _, _, _, _, h4⟩ := st.tree
  refine ⟨_, rfl, a, CS, dx, _, _, rfl, hob, SC.cl, SC.nL, rfl, la, rfl, ⟨_, SqL.of st.lst⟩, fun Dl hDl => ?_⟩
  have st0 := st.with (v := .lst []) hDl
  refine lc_list (K := K) (a := la) (xs := Ls.map V.ref) (fun j H' => Same H H' ∧ ∃ vs : List V, H' Dl = some (.lst vs) ∧ DpAll K (offS (Dl :: S) H') vs (((ad T).take j).map fun q => .tuple ((L q).map enD))) ⟨same_new hDl, [], upd_same, .nil⟩ (fun j H' _ hh => SqL.of (hh.1 _ _ st.lst)) ?_ ?_
  · rintro j x H' hj ⟨sm, vs, hD, hv⟩
    rw [List.getElem?_map] at hj
    obtain ⟨l, hlj, rfl⟩ := Option.map_eq_some_iff.mp hj
    have hjl := (List.getElem?_eq_some_iff.mp hlj).1
    rw [st.len, ← ad_len] at hjl
    obtain ⟨l', xs, g1, g2, g3⟩ := st.li _ (List.getElem_mem hjl)
    rw [idx_of (List.getElem?_eq_getElem hjl), hlj] at g1
    obtain rfl := Option.some.inj g1
    refine ⟨rfl, _, rfl, l, _, rfl, .inl ⟨SqL.of (sm _ _ g2), fun p hp => ?_⟩⟩
    have npD : p ≠ Dl := fun e => by
      rw [e, hD] at hp
      exact nomatch hp
    have hpS : p ∉ Dl :: S := fun z => by
      rcases List.mem_cons.mp z with z | z
      · exact npD z
      · exact same_al sm (st.al p z) hp
    have hvl := dps_len hv
    rw [List.length_map, List.length_take] at hvl
    have gA : GoS (Dl :: S) H' (upd (upd H' p (.tup xs)) Dl (.lst (vs ++ [.ref p]))) := (GoS.of (same_new hp)).upd (List.mem_cons_self ..)
    refine ⟨vs, (same_new hp) _ _ hD, small1000 (by have := ad_len T; omega), same_mut (sm.trans (same_new hp)) hDl, _, upd_same, ?_⟩
    rw [List.take_add_one, List.getElem?_eq_getElem hjl, List.map_append]
    refine dps_app (dps_same gA.s hv) (.cons (.tup (xs := xs) (SqT.of ?_) ?_) .nil)
    · rw [offS_ne hpS, upd_ne npD]
      exact upd_same
    · have z1 : Same (offS S H) (offS (Dl :: S) H') := offS_grow (N := [Dl]) sm fun y hy => by rw [List.mem_singleton.mp hy]; exact hDl
      exact dps_same gA.s (dps_same z1 g3)
  · rintro H2 ⟨sm, vs, hD, hv⟩
    refine ⟨Dl, _, rfl, .inl ⟨SqL.of hD, fun p hp => ?_⟩⟩
    have hpS : p ∉ S := fun z => same_al sm (st.al p z) hp
    have npD : p ≠ Dl := fun e => by
      rw [e, hD] at hp
      exact nomatch hp
    rw [List.length_map, st.len, ← ad_len, List.take_length] at hv
    refine q _ p (sm.trans (same_new hp)) (sm.free hp) (.tup (SqT.of (by rw [offS_ne hpS]; exact upd_same)) ?_)
    exact dps_same ((GoS.of (S := S) (same_new hp)).s) (dps_same (offS_sub fun y hy => List.mem_cons_of_mem _ hy) hv)
theorem ok_needSt (D : DefAt K mg "need_standing" s_need_standing ["standing", "word"]) (T0 : Txt K mg) (SC : StCl K CS) (IS : IsS K mg CS) (GN : CalX P w K mg base (L2.CX P w) 3 "need" ["fits", "word"] (spNeed U)) : CalX P w K mg base (L2.CX P w) 4 "need_standing" ["standing", "word"] (spNeedSt K CS U) := by
  refine D.okX sc_need_standing (fun vs H Q E h => ?_) (fun f cdv A outer s H vs Q E hr h => ?_)
  · obtain ⟨x, z, g, rfl, _⟩ := h
    rfl
  obtain ⟨x, z, g, rfl, hx, q1, q2⟩ := h
  refine ⟨_, (pss_one (ps_expr (pe_cx GN hr (by decide) rfl (passes_call (takes_of rfl rfl rfl rfl) (fun _ _ _ _ h => h)) (pa_cons (pe_callB call_isi (by rfl) T0.isinstance boot_isinstance (pa_cons (pv 0) (pa_cons (pe_glob (v := .ref CS) (by rfl) IS.mg rfl) pa_nil))) (pa_cons (pv 1) pa_nil))))), ?_⟩
  rcases hx with ⟨rfl, a, dx, fs, rfl, ha⟩ | ⟨rfl, t, hk, ht⟩
  · exact ⟨_, rfl, _, _, _, _, true, rfl, .own CS, .base (.ins ha SC.cl IS.f1 IS.f2 IS.f3 IS.f4), kit_self, _, rfl, true, z, rfl, fun _ => q1 rfl, fun e => nomatch e⟩
  · exact ⟨_, rfl, _, _, _, _, false, rfl, .own CS, hk, IS.no t ht, _, rfl, false, z, rfl, (fun e => nomatch e), fun _ d hd => q2 rfl H (fun _ _ y => y) d hd⟩
end
end K65
set_option Elab.async false
set_option linter.all false
set_option maxRecDepth 100000
set_option maxHeartbeats 8000000
namespace K65
open PySem PySem.Spec PyProof.Rows L2 Dt
theorem Tree.off {K : PySem.W.Frag} {H : Hp} {C ta a CS dx : Addr} {fs : List (Str × V)} {T : Dt} (t : Tree K H C ta T) (ha : H a = some (.ins CS dx fs)) (ne : a ≠ ta) : Tree K (offS [a] H) C ta T := by
  obtain ⟨dx', fv, L, S, h1, h2, h3, h4⟩ := t
  have kt : KeepT H (offS [a] H) := fun y ys => ⟨fun h => by
    rw [offS_ne]
    · exact h
    · intro e
      rw [List.mem_singleton.mp e, ha] at h
      exact HO.noConfusion (Option.some.inj h), fun o h => by
    rw [offS_ne]
    · exact h
    · intro e
      rw [List.mem_singleton.mp e, ha] at h
      exact HO.noConfusion (Option.some.inj h)⟩
  refine ⟨dx', fv, L, S, ⟨?_, fun i hi => ?_, h1.inj⟩, fun i hi => Paired.mono (fun v q c => Cell.keep kt i v q c) (h2 i hi), h3.keep kt, h4⟩
  · rw [offS_ne (fun e => ne (List.mem_singleton.mp e).symm)]
    exact h1.ob
  · have := h1.ls i hi
    rw [offS_ne]
    · exact this
    · intro e
      rw [List.mem_singleton.mp e, ha] at this
      exact HO.noConfusion (Option.some.inj this)
theorem TN.off {K : PySem.W.Frag} {H0 H : Hp} {C ta a CS dx : Addr} {fs : List (Str × V)} {T : Dt} (t : TN K H0 H C ta T) (ha : H a = some (.ins CS dx fs)) (ne : a ≠ ta) : TN K H0 (offS [a] H) C ta T := by
  obtain ⟨dx', fv, L, S, h1, h2, h3, h4, h5⟩ := t
  have kt : KeepT H (offS [a] H) := fun y ys => ⟨fun h => by
    rw [offS_ne]
    · exact h
    · intro e
      rw [List.mem_singleton.mp e, ha] at h
      exact HO.noConfusion (Option.some.inj h), fun o h => by
    rw [offS_ne]
    · exact h
    · intro e
      rw [List.mem_singleton.mp e, ha] at h
      exact HO.noConfusion (Option.some.inj h)⟩
  refine ⟨dx', fv, L, S, ⟨?_, fun i hi => ?_, h1.inj⟩, fun i hi => Paired.mono (fun v q c => Cell.keep kt i v q c) (h2 i hi), h3.keep kt, h4, h5⟩
  · rw [offS_ne (fun e => ne (List.mem_singleton.mp e).symm)]
    exact h1.ob
  · have := h1.ls i hi
    rw [offS_ne]
    · exact this
    · intro e
      rw [List.mem_singleton.mp e, ha] at this
      exact HO.noConfusion (Option.some.inj this)
/-! ### Standing(form) -/
def spMade (K : PySem.W.Frag) (C CS U : Addr) : Sp := fun vs H Q E => ∃ (a dx : Addr) (v : V) (t : Dt), vs = [.ref a, v] ∧ H a = some (.ins CS dx []) ∧ DtV K H v t ∧ t.size ≤ 100000 ∧
  (t.good 1 = true → t.ht < 20 ∧ t.nodes ≤ 1000 ∧ ∀ H' ta la sd Ls, StE K C CS (sd :: Ls) H' a ta la sd Ls t (fun _ => []) [] → TN K H (offS (sd :: Ls) H') C ta t ∧ H la = none → (∀ y o, H y = some o → y ≠ a → H' y = some o) → (∀ y ∈ sd :: Ls, H y = none) → Q .non H') ∧
  (t.good 1 = false → ∀ H', Same H H' → Out U "form" H' E)
section
variable {P : Program} {w : World} {K : PySem.W.Frag} {mg : Str → Option Value} {base : Heap}
theorem ok_made {C CS U f fG : Addr} {fd : FuncData} (F : Fun K "__init__" "Standing.__init__" s_Standing_init f fd) (SC : StCl K CS) (TC : TCl K mg C fG)
    (GShapeTree : CalX P w K mg base (L2.CX P w) 23 "shape_tree" ["form", "word"] (spShapeTree K C U)) : FnOk P w K mg base (L2.CX P w) 24 f fd ["self", "form"] (spMade K C CS U) := by
  refine F.okX sc_Standing_init (fun vs H Q E h => ?_) (fun cdv A outer s H vs Q E hr h => ?_)
  · obtain ⟨a, dx, v, t, rfl, _⟩ := h
    rfl
  obtain ⟨a, dx, v, t, rfl, ho, hv, hz, q1, q2⟩ := h
  refine ⟨_, pss_cons (ps_fld (pv 0) (pe_cx GShapeTree hr (by decide) rfl (passes_call (takes_of rfl rfl rfl rfl) (fun _ _ _ _ h => h)) (pa_cons (pv 1) (pa_cons pe_str pa_nil))) rfl)
    (pss_cons (ps_fld (pv 0) (pe_lc (own := [("_", 2)]) (g := gName 2) (tt := tYes) (by rfl) sc_Standing_init.nd (pi_list (pe_fld (pe_fld (pv 0) rfl) rfl)) (blkOk_by (own := [("_", 2)]) (N := N_Standing_init) (sc := defScope s_Standing_init) (by decide +kernel)) (fun _ _ _ _ _ => pg_name (i := 2) sc_Standing_init.nd rfl (Or.inl rfl)) (fun _ _ _ _ _ => pts_nil) (fun _ _ _ _ _ => by exact (pe_lst pa_nil))) rfl)
    (pss_one (ps_fld (pv 0) pe_dnewK rfl))), ?_⟩
  refine ⟨_, rfl, v, t, "form", rfl, hv, hz, fun g => ?_, fun g H' s => q2 g H' s⟩
  obtain ⟨g1, g2, k⟩ := q1 g
  refine ⟨g1, g2, fun ta H1 _ s1 hTN hta hTr => ?_⟩
  have ho1 := s1 _ _ ho
  have nta : a ≠ ta := fun e => by
    rw [e, hta] at ho
    exact nomatch ho
  refine ⟨_, rfl, a, CS, dx, [], rfl, ho1, SC.cl, SC.nT, (by show 0 < 1000; decide), ?_⟩
  have TO := hTr.off ho1 nta
  have TNO := hTN.off ho1 nta
  have ob2 : (upd H1 a (.ins CS dx (putF "tree" (.ref ta) []))) a = some (.ins CS dx (st1 ta)) := upd_same
  have T2 := hTr.put CS dx [] ho1 nta (putF "tree" (.ref ta) [])
  have kq2 : ∀ y o, H1 y = some o → y ≠ a → (upd H1 a (.ins CS dx (putF "tree" (.ref ta) []))) y = some o := fun y o h n => by
    rw [upd_ne n]
    exact h
  have kp2 : ∀ y o, H y = some o → y ≠ a → (upd H1 a (.ins CS dx (putF "tree" (.ref ta) []))) y = some o := fun y o h n => by
    rw [upd_ne n]
    exact s1 _ _ h
  revert T2 ob2 kq2 kp2
  generalize upd H1 a (.ins CS dx (putF "tree" (.ref ta) [])) = H2
  intro ob2 T2 kq2 kp2
  have T2' := T2
  obtain ⟨dx', fv, L, S, h1, h2, h3, h4⟩ := T2'
  have hlen : (S 2).length = t.nodes := by
    rw [Paired.len (h2 2 (by decide))]
    exact ad_len t
  refine ⟨_, rfl, a, CS, dx, _, _, rfl, ob2, SC.cl, SC.nT, rfl, ta, C, dx', _, _, rfl, h1.ob, TC.cl, TC.n2, stF_2 _ _, L 2, rfl, ⟨_, SqL.of (h1.ls 2 (by decide))⟩, fun Dl hDl => ?_⟩
  refine lc_list (K := K) (a := L 2) (xs := S 2) (fun j H' => Same H2 H' ∧ ∃ Ls : List Addr, H' Dl = some (.lst (Ls.map V.ref)) ∧ Ls.length = j ∧ (∀ l ∈ Ls, H' l = some (.lst []) ∧ H2 l = none) ∧ (Dl :: Ls).Nodup) ⟨same_new hDl, [], upd_same, rfl, (fun _ z => nomatch z), by simp⟩ (fun j H' _ hh => SqL.of (hh.1 _ _ (h1.ls 2 (by decide)))) ?_ ?_
  · rintro j x H' hj ⟨sm, Ls, hD, hl, hls, hnd⟩
    have hjl := (List.getElem?_eq_some_iff.mp hj).1
    refine ⟨rfl, (by show 0 ≤ sizeLine; decide), fun p hp => ?_⟩
    have npD : p ≠ Dl := fun e => by
      rw [e, hD] at hp
      exact nomatch hp
    have npL : p ∉ Ls := fun z => by
      rw [(hls p z).1] at hp
      exact nomatch hp
    obtain ⟨nd1, nd2⟩ := List.nodup_cons.mp hnd
    refine ⟨Ls.map V.ref, (same_new hp) _ _ hD, small1000 (by rw [List.length_map]; omega), same_mut (sm.trans (same_new hp)) hDl, Ls ++ [p], by rw [upd_same, List.map_append]; rfl, by rw [List.length_append]; show Ls.length + 1 = j + 1; omega, fun l hl2 => ?_, ?_⟩
    · rcases List.mem_append.mp hl2 with hl2 | hl2
      · obtain ⟨e1, e2⟩ := hls l hl2
        refine ⟨?_, e2⟩
        rw [upd_ne (fun e => nd1 (by rw [← e]; exact hl2))]
        exact (same_new hp) _ _ e1
      · obtain rfl := List.mem_singleton.mp hl2
        refine ⟨?_, sm.free hp⟩
        rw [upd_ne npD]
        exact upd_same
    · refine List.nodup_cons.mpr ⟨fun z => ?_, List.nodup_append.mpr ⟨nd2, by simp, fun x hx y hy e => ?_⟩⟩
      · rcases List.mem_append.mp z with z | z
        · exact nd1 z
        · exact npD (List.mem_singleton.mp z).symm
      · rw [List.mem_singleton.mp hy] at e
        exact npL (e ▸ hx)
  rintro H3 ⟨sm, Ls, hD, hl, hls, hnd⟩
  have ob3 := sm _ _ ob2
  have nDa : Dl ≠ a := fun e => by
    rw [e, ob2] at hDl
    exact nomatch hDl
  refine ⟨_, rfl, a, CS, dx, _, rfl, ob3, SC.cl, SC.nL, (by show 1 < 1000; decide), ?_⟩
  have e4 : putF "lines" (.ref Dl) (st1 ta) = (st2 ta Dl) := putF_new (show ∀ g ∈ (["tree"] : List Str), ¬ g = "lines" by decide +kernel)
  rw [e4]
  have ob4 : (upd H3 a (.ins CS dx (st2 ta Dl))) a = some (.ins CS dx (st2 ta Dl)) := upd_same
  have hD4 := lst_upd (fs' := (st2 ta Dl)) ob3 hD
  have hls4 : ∀ l ∈ Ls, (upd H3 a (.ins CS dx (st2 ta Dl))) l = some (.lst []) := fun l h => lst_upd ob3 (hls l h).1
  have kq4 : ∀ y o, H2 y = some o → y ≠ a → (upd H3 a (.ins CS dx (st2 ta Dl))) y = some o := fun y o h n => by
    rw [upd_ne n]
    exact sm _ _ h
  have kp4 : ∀ y o, H y = some o → y ≠ a → (upd H3 a (.ins CS dx (st2 ta Dl))) y = some o := fun y o h n => by
    rw [upd_ne n]
    exact sm _ _ (kp2 y o h n)
  revert ob4 hD4 hls4 kq4 kp4
  generalize upd H3 a (.ins CS dx (st2 ta Dl)) = H4
  intro ob4 hD4 hls4 kq4 kp4
  refine fun sd hsd => ?_
  have s5 := same_new (o := .dK []) hsd
  have ob5 := s5 _ _ ob4
  refine ⟨_, rfl, a, CS, dx, _, rfl, ob5, SC.cl, SC.nS, (by show 2 < 1000; decide), ?_⟩
  have e6 : putF "seats" (.ref sd) (st2 ta Dl) = stS ta Dl sd := putF_new (show ∀ g ∈ (["tree", "lines"] : List Str), ¬ g = "seats" by decide +kernel)
  rw [e6]
  have nsa : sd ≠ a := fun e => by
    rw [e, ob4] at hsd
    exact nomatch hsd
  have free : ∀ l, H2 l = none → l ≠ a → H l = none := fun l h n => by
    cases e : H l with
    | none => rfl
    | some o =>
      rw [kp2 l o e n] at h
      exact nomatch h
  have fs2 : ∀ l, H4 l = none → l ≠ a → H2 l = none := fun l h n => by
    cases e : H2 l with
    | none => rfl
    | some o =>
      rw [kq4 l o e n] at h
      exact nomatch h
  have laD : ∀ l ∈ Ls, l ≠ a := fun l h e => by
    have := (hls l h).2
    rw [e, ob2] at this
    exact nomatch this
  obtain ⟨nd1, nd2⟩ := List.nodup_cons.mp hnd
  have nsL : sd ∉ Ls := fun z => by
    rw [hls4 sd z] at hsd
    exact nomatch hsd
  have nsD : Dl ≠ sd := fun z => by
    rw [← z, hD4] at hsd
    exact nomatch hsd
  have ndS : Dl ∉ sd :: Ls := fun z => by
    rcases List.mem_cons.mp z with z | z
    · exact nsD z
    · exact nd1 z
  have naS : a ∉ sd :: Ls := fun z => by
    rcases List.mem_cons.mp z with z | z
    · exact nsa z.symm
    · exact laD a z rfl
  have hfree : ∀ y ∈ sd :: Ls, H1 y = none := fun y hy => by
    have h2 : H2 y = none := by
      rcases List.mem_cons.mp hy with e | hy
      · rw [e]
        exact fs2 sd hsd nsa
      · exact (hls y hy).2
    cases e : H1 y with
    | none => rfl
    | some o =>
      rw [kq2 y o e (fun z => naS (by rw [← z]; exact hy))] at h2
      exact nomatch h2
  have fin : Same (offS [a] H1) (offS (sd :: Ls) (upd (upd H4 sd (.dK [])) a (.ins CS dx (stS ta Dl sd)))) := fun y o h => by
    obtain ⟨n1, h1'⟩ := offS_some h
    have n1' : y ≠ a := fun z => n1 (List.mem_singleton.mpr z)
    rw [offS_ne (fun z => by rw [hfree y z] at h1'; exact nomatch h1'), upd_ne n1']
    exact s5 _ _ (kq4 y o (kq2 y o h1' n1') n1')
  have hlsF : ∀ l ∈ Ls, (upd (upd H4 sd (.dK [])) a (.ins CS dx (stS ta Dl sd))) l = some (.lst []) := fun l h => lst_upd ob5 (s5 _ _ (hls4 l h))
  have hsdF : (upd (upd H4 sd (.dK [])) a (.ins CS dx (stS ta Dl sd))) sd = some (.dK []) := by
    rw [upd_ne nsa]
    exact upd_same
  refine k _ ta Dl sd Ls ⟨fun y hy => hy, fun y hy => ?_, List.nodup_cons.mpr ⟨nsL, nd2⟩, ⟨dx, by rw [offS_ne naS]; exact upd_same⟩, TO.same fin, (by rw [offS_ne ndS]; exact lst_upd ob5 (s5 _ _ hD4)), by rw [hl, hlen], fun q hq => ?_, hsdF, (fun q e z => nomatch z), (fun q => List.Pairwise.nil)⟩ ⟨TNO.same fin, free Dl hDl nDa⟩ (fun y o h n => ?_) (fun y hy => ?_)
  · rcases List.mem_cons.mp hy with e | hy
    · rw [e, hsdF]
      exact fun z => nomatch z
    · rw [hlsF y hy]
      exact fun z => nomatch z
  · obtain ⟨u, hu⟩ := ad_sub hq
    have hi := idx_lt hu
    have hi2 := u.nodes_pos
    have hj : t.idx q < Ls.length := by rw [hl, hlen]; omega
    exact ⟨_, [], List.getElem?_eq_getElem hj, hlsF _ (List.getElem_mem hj), .nil⟩
  · rw [upd_ne n]
    exact s5 _ _ (kp4 y o h n)
  · cases e : H y with
    | none => rfl
    | some o =>
      have := hfree y hy
      rw [s1 y o e] at this
      exact nomatch this
end
end K65
set_option Elab.async false
set_option linter.all false
set_option maxRecDepth 100000
set_option maxHeartbeats 8000000
namespace L2
open PySem PySem.Spec PyProof.Rows
/-- a loop over enumerate(list) -/
theorem for_enumL {K : PySem.W.Frag} {a : Addr} {xs : List V} {g : TG} {tb : TS} {D : Ends} {σ : L2.St} {H : Hp} (Pv : Nat → L2.St → Hp → Prop) (h0 : Pv 0 σ H) (hq : ∀ i σ H, Pv i σ H → SqL K H a xs)
    (hs : ∀ (i : Nat) (x : V) (T : Addr) (σ : L2.St) (H : Hp), xs[i]? = some x → Pv i σ H → H T = none → g (.ref T) σ (upd H T (.tup [.int (i : Nat), x])) fun σ2 H2 => tb { D with nx := Pv (i + 1), ct := Pv (i + 1), bk := D.nx } σ2 H2) (hd : ∀ σ H, Pv xs.length σ H → D.nx σ H) :
    ∃ W : Nat → Nat → L2.St → Hp → Prop, (∃ m, W 0 m σ H) ∧ ∀ i m σ H, W i m σ H →
      ((Ite K a).stop i H ∧ D.nx σ H) ∨ ((Ite K a).go i H ∧ ∃ N : L2.St → Hp → Prop, (∀ σ' H', N σ' H' → ∃ m', m' < m ∧ W (i + 1) m' σ' H') ∧ ∀ v H', (Ite K a).yld i H v H' → g v σ H' fun σ2 H2 => tb { D with nx := N, ct := N, bk := D.nx } σ2 H2) := by
  refine ⟨fun i m σ H => m = xs.length - i ∧ i ≤ xs.length ∧ Pv i σ H, ⟨xs.length, rfl, Nat.zero_le _, h0⟩, ?_⟩
  rintro i m σ H ⟨rfl, hi, p⟩
  have qx := hq i σ H p
  by_cases hlt : i < xs.length
  · have hx : xs[i]? = some xs[i] := List.getElem?_eq_getElem hlt
    refine .inr ⟨⟨xs, _, qx, hx⟩, Pv (i + 1), fun σ' H' p' => ⟨xs.length - (i + 1), by omega, rfl, hlt, p'⟩, fun v H' y => ?_⟩
    obtain ⟨T, x', rfl, hT, rfl, f1⟩ := y
    exact hs i x' T σ H (f1 xs qx) p hT
  · have e : i = xs.length := by omega
    subst e
    exact .inl ⟨⟨xs, qx, Nat.le_refl _⟩, hd σ H p⟩
end L2
namespace K65
open PySem PySem.Spec PyProof.Rows L2 Dt
theorem shf_dtf {K : PySem.W.Frag} {H : Hp} : ∀ {vs : List V} {t : Dt}, ShF K H vs t → DtF K H vs t
  | _, _, .nil => .nil
  | _, _, .cons h p q => .tup h (shf_dtf p) (shf_dtf q)
theorem shv_dtv {K : PySem.W.Frag} {H : Hp} {v : V} {t : Dt} (h : ShV K H v t) : DtV K H v t := by
  obtain ⟨a, vs, e, h1, h2⟩ := h
  exact .inr ⟨a, vs, e, h1, shf_dtf h2⟩
theorem first_at {n : Int} : ∀ {l : List Int}, n ∈ l → ∃ j : Nat, l[j]? = some n ∧ ∀ i : Nat, i < j → l[i]? ≠ some n
  | y :: l, h => by
    by_cases e : y = n
    · exact ⟨0, by rw [e]; rfl, fun i hi => absurd hi (Nat.not_lt_zero _)⟩
    · obtain ⟨j, h1, h2⟩ := first_at ((List.mem_cons.mp h).resolve_left fun z => e z.symm)
      refine ⟨j + 1, by simpa using h1, fun i hi => ?_⟩
      cases i with
      | zero =>
        intro z
        exact e (Option.some.inj z)
      | succ i => simpa using h2 i (by omega)
/-- which packets are seated -/
structure SeatN (T : Dt) (L : Lns) (kv : List (Key × V)) (Dn : Nat → Int → Prop) : Prop where
  to : ∀ n i p, (lv T)[i]? = some p → n ∈ its (L p) → Dn i n → valV kv (Sum.inl n : Key) = some (.int (i : Nat))
  fr : ∀ k v, valV kv k = some v → ∃ n i p, k = Sum.inl n ∧ v = .int (i : Nat) ∧ (lv T)[i]? = some p ∧ n ∈ its (L p)
theorem SeatN.imp {T : Dt} {L : Lns} {kv : List (Key × V)} {D1 D2 : Nat → Int → Prop} (s : SeatN T L kv D1) (h : ∀ n i p, (lv T)[i]? = some p → n ∈ its (L p) → D2 i n → D1 i n) : SeatN T L kv D2 :=
  ⟨fun n i p h1 h2 h3 => s.to n i p h1 h2 (h n i p h1 h2 h3), s.fr⟩
theorem SeatN.put {T : Dt} {L : Lns} {kv kv0 : List (Key × V)} {Dn : Nat → Int → Prop} (s : SeatN T L kv Dn) (s0 : Seat T L kv0) {n : Int} {i : Nat} {p : Ad} (hi : (lv T)[i]? = some p) (hn : n ∈ its (L p)) : SeatN T L (putK kv (Sum.inl n : Key) (.int (i : Nat))) fun i' n' => Dn i' n' ∨ (i' = i ∧ n' = n) := by
  refine ⟨fun n' i' p' h1 h2 h3 => ?_, fun k v h => ?_⟩
  · rw [valV_put]
    by_cases e : n' = n
    · subst e
      rw [if_pos rfl]
      have a := s0.to n' i p hi hn
      rw [s0.to n' i' p' h1 h2] at a
      exact a.symm
    · rw [if_neg (fun z => e (Sum.inl.inj z))]
      exact s.to n' i' p' h1 h2 (h3.resolve_right fun z => e z.2)
  · rw [valV_put] at h
    by_cases e : k = Sum.inl n
    · rw [if_pos e] at h
      exact ⟨n, i, p, e, (Option.some.inj h).symm, hi, hn⟩
    · rw [if_neg e] at h
      exact s.fr k v h
structure LnsOK (T : Dt) (L : Lns) (kv : List (Key × V)) : Prop where
  rk : ∀ q, RkOK (L q)
  pw : ∀ q, Asc1 (L q)
  se : Seat T L kv
  sz : ∀ q, (L q).length ≤ 100
  gd : T.good 1 = true
  ht : T.ht < 20
  sm : T.size ≤ 100000
def spWith (K : PySem.W.Frag) (C CS : Addr) : Sp := fun vs H Q _ => ∃ (la : Addr) (fv : V) (Ls : List Addr) (T : Dt) (L : Lns) (kv : List (Key × V)), vs = [fv, .ref la] ∧ ShV K H fv T ∧ T.nodes ≤ 1000 ∧ H la = some (.lst (Ls.map V.ref)) ∧ Ls.length = T.nodes ∧ (∀ q ∈ ad T, ∃ l xs, Ls[T.idx q]? = some l ∧ H l = some (.lst xs) ∧ DpAll K H xs ((L q).map enD)) ∧ LnsOK T L kv ∧
  ∀ H' a ta la' sd Ls' kv', Same H H' → StE K C CS (sd :: Ls') H' a ta la' sd Ls' T L kv' → Seat T L kv' → kv'.length ≤ 100000 → (∀ y ∈ sd :: Ls', H y = none) → H a = none → TN K H (offS (sd :: Ls') H') C ta T ∧ H la' = none → Q (.ref a) H'
def spTwin (K : PySem.W.Frag) (C CS : Addr) : Sp := fun vs H Q _ => ∃ (a ta la sd : Addr) (S Ls : List Addr) (T : Dt) (L : Lns) (kv : List (Key × V)), vs = [.ref a] ∧ StE K C CS S H a ta la sd Ls T L kv ∧ LnsOK T L kv ∧
  ∀ H' a' ta' la' sd' Ls' kv', Same H H' → StE K C CS (sd' :: Ls') H' a' ta' la' sd' Ls' T L kv' → Seat T L kv' → kv'.length ≤ 100000 → (∀ y ∈ sd' :: Ls', H y = none) → H a' = none → TN K H (offS (sd' :: Ls') H') C ta' T ∧ H la' = none → Q (.ref a') H'
section
variable {P : Program} {w : World} {K : PySem.W.Frag} {mg : Str → Option Value} {base : Heap} {C CS U fG : Addr}
end
end K65
set_option Elab.async false
set_option linter.all false
set_option maxRecDepth 100000
set_option maxHeartbeats 8000000
namespace K65
open PySem PySem.Spec PyProof.Rows L2 Dt
theorem call_list_ofK {X : Cx} {K : PySem.W.Frag} (hK : X.K = K) : CallR X (.type "list") fun xs H Q => ∃ p ys, xs = [V.ref p] ∧ (SqL K H p ys ∨ SqT K H p ys) ∧ ∀ (l : Addr), H l = none → Q (V.ref l) (upd H l (HO.lst ys)) := by
  subst hK
  exact call_list_of
theorem stS_ne {ta la sd : Addr} {fv : V} {LL : Nat → Addr} (h : stS ta la sd = stF fv LL) : False := by
  exact absurd (show (3 : Nat) = 11 from congrArg List.length h) (by decide)
theorem tree_ne {K : PySem.W.Frag} {H : Hp} {C CS a ta la sd dx : Addr} {T : Dt} (t : Tree K H C ta T) (h : H a = some (.ins CS dx (stS ta la sd))) : a ≠ ta := fun e => by
  obtain ⟨dx', fv, LL, SS, h1, _⟩ := t
  have h2 := h1.ob
  rw [← e, h] at h2
  injection h2 with h2
  injection h2 with _ _ h2
  exact stS_ne h2
theorem lf_le (T : Dt) : T.lf ≤ T.nodes := by
  rw [← ad_len]
  exact List.length_filter_le ..
section
variable {P : Program} {w : World} {K : PySem.W.Frag} {mg : Str → Option Value} {base : Heap} {C CS U fG : Addr}
theorem ok_with {fS : Addr} {fdS : FuncData} (D : DefAt K mg "standing_with" s_standing_with ["form", "lines"]) (T0 : Txt K mg) (hE : mg "enumerate" = none) (hLi : mg "list" = none) (SC : StCl K CS) (TC : TCl K mg C fG) (MS : Mk K CS fS) (gS : mg "Standing" = some (.ref CS)) (bS : Binds K fdS ["self", "form"] []) (FS : FnOk P w K mg base (L2.CX P w) 24 fS fdS ["self", "form"] (spMade K C CS U)) :
    CalX P w K mg base (L2.CX P w) 26 "standing_with" ["form", "lines"] (spWith K C CS) := by
  refine D.okX sc_standing_with (fun vs H Q E h => ?_) (fun f cdv A outer s H vs Q E hr h => ?_)
  · obtain ⟨la, fv, Ls, T, L, kv, rfl, _⟩ := h
    rfl
  obtain ⟨la, fv, Ls, T, L, kv, rfl, hfv, hno, hla, hLl, hli, ok, q⟩ := h
  have hu := hu_of hr
  refine ⟨_, (pss_cons (ps_set (i := 2) sc_standing_with.nd rfl (.inl rfl) (pe_make MS FS (hr.mono (by decide)) rfl gS bS .nil (passes_call (takes_of rfl rfl rfl rfl) (fun _ _ _ _ h => h)) (pa_cons (pv 0) pa_nil))) 
    (pss_cons (ps_fld (pv 2) (pe_lc (own := [("line", 3)]) (g := gName 3) (tt := tYes) (by rfl) sc_standing_with.nd (pi_list (pv 1)) (blkOk_by (own := [("line", 3)]) (N := N_standing_with) (sc := defScope s_standing_with) (by decide +kernel)) (fun _ _ _ _ _ => pg_name (i := 3) sc_standing_with.nd rfl (Or.inl rfl)) (fun _ _ _ _ _ => pts_nil) (fun _ _ _ _ _ => by exact (pe_callTy (call_list_ofK (K := K) (by exact rfl)) (by rfl) hLi (by decide +kernel) (pa_cons (pv 3) pa_nil)))) rfl) 
    (pss_cons (ps_for (passes_of rfl) rfl (pi_enum (by rfl) hE (pa_cons (pe_fld (pe_fld (pv 2) rfl) rfl) pa_nil)) (pg_tup (by rfl) (pgs_cons (pg_name (i := 4) sc_standing_with.nd rfl (Or.inl rfl)) (pgs_cons (pg_name (i := 5) sc_standing_with.nd rfl (Or.inl rfl)) pgs_nil))) 
      (pss_one (ps_for (passes_of rfl) rfl (pi_list (pe_ix ix_list (pe_fld (pv 2) rfl) (pv 5) (fun _ _ => rfl))) (pg_name (i := 6) sc_standing_with.nd rfl (Or.inl rfl)) 
        (pss_one (ps_dput hu (pe_fld (pv 2) rfl) (pe_ix ix_tup (pv 6) pe_int (fun _ _ => rfl)) (pv 4) rfl))))) 
    (pss_one (ps_ret (pv 2)))))), ?_⟩
  refine ⟨_, rfl, fun a dx ha hdx hne => ?_⟩
  have s0 : Same H (upd (upd H dx (.own a)) a (.ins CS dx [])) := fun y o h => by rw [upd_ne (ne_of_none h ha), upd_ne (ne_of_none h hdx)]; exact h
  refine ⟨a, dx, fv, T, rfl, upd_same, same_dtv s0 (shv_dtv hfv), ok.sm, fun _ => ⟨ok.ht, hno, fun H1 ta la1 sd Ls1 st1 tn1 fr1 fresh1 => ⟨rfl, ?_⟩⟩, fun bad => absurd (ok.gd.symm.trans bad) (by decide)⟩
  have s1 : Same H H1 := fun y o h => fr1 y o (s0 y o h) (ne_of_none h ha)
  have hsd0 : H sd = none := by
    cases e : H sd with
    | none => rfl
    | some o =>
      have := fresh1 sd (List.mem_cons_self ..)
      rw [s0 _ _ e] at this
      exact nomatch this
  obtain ⟨dx1, hob1'⟩ := st1.ob
  have hob1 := (offS_some hob1').2
  have naS1 := (offS_some hob1').1
  refine ⟨_, rfl, la, rfl, ⟨_, SqL.of (s1 _ _ hla)⟩, fun Dl hDl => ?_⟩
  refine lc_list (K := K) (a := la) (xs := Ls.map V.ref) (fun j H' => Same H1 H' ∧ ∃ Ms : List Addr, H' Dl = some (.lst (Ms.map V.ref)) ∧ Ms.length = j ∧ (∀ (i : Nat) (m : Addr), Ms[i]? = some m → ∃ l xs, Ls[i]? = some l ∧ H l = some (.lst xs) ∧ H' m = some (.lst xs) ∧ H1 m = none) ∧ (Dl :: Ms).Nodup) ⟨same_new hDl, [], upd_same, rfl, (fun i m z => by simp at z), by simp⟩ (fun j H' _ hh => SqL.of (hh.1 _ _ (s1 _ _ hla))) ?_ ?_
  · rintro j x H' hj ⟨sm, Ms, hD, hl, hM, hnd⟩
    rw [List.getElem?_map] at hj
    obtain ⟨l, hlj, rfl⟩ := Option.map_eq_some_iff.mp hj
    have hjl := (List.getElem?_eq_some_iff.mp hlj).1
    have hjl2 := hjl
    rw [hLl, ← ad_len] at hjl
    obtain ⟨l', xs, g1, g2, g3⟩ := hli _ (List.getElem_mem hjl)
    rw [idx_of (List.getElem?_eq_getElem hjl), hlj] at g1
    obtain rfl := Option.some.inj g1
    have hl1 := s1 _ _ g2
    refine ⟨rfl, _, rfl, l, _, rfl, .inl (SqL.of (sm _ _ hl1)), fun p hp => ?_⟩
    have npD : p ≠ Dl := fun e => by
      rw [e, hD] at hp
      exact nomatch hp
    obtain ⟨nd1, nd2⟩ := List.nodup_cons.mp hnd
    have npM : p ∉ Ms := fun z => by
      obtain ⟨i, hi⟩ := List.mem_iff_getElem?.mp z
      obtain ⟨_, xs', _, _, z2, _⟩ := hM i p hi
      rw [z2] at hp
      exact nomatch hp
    refine ⟨Ms.map V.ref, (same_new hp) _ _ hD, small1000 (by rw [List.length_map]; omega), same_mut (sm.trans (same_new hp)) hDl, Ms ++ [p], by rw [upd_same, List.map_append]; rfl, by rw [List.length_append]; show Ms.length + 1 = j + 1; omega, fun i m hm => ?_, ?_⟩
    · by_cases cc : i < Ms.length
      · rw [List.getElem?_append_left cc] at hm
        obtain ⟨l2, xs2, z1, z2, z3, z4⟩ := hM i m hm
        refine ⟨l2, xs2, z1, z2, ?_, z4⟩
        rw [upd_ne (fun e => nd1 (by rw [← e]; exact List.mem_of_getElem? hm))]
        exact (same_new hp) _ _ z3
      · have hi := (List.getElem?_eq_some_iff.mp hm).1
        rw [List.length_append] at hi
        have hi2 : i < Ms.length + 1 := hi
        obtain rfl : i = Ms.length := by omega
        rw [List.getElem?_append_right (Nat.le_refl _), Nat.sub_self] at hm
        obtain rfl := Option.some.inj hm
        refine ⟨l, xs, by rw [hl]; exact hlj, g2, ?_, sm.free hp⟩
        rw [upd_ne npD]
        exact upd_same
    · refine List.nodup_cons.mpr ⟨fun z => ?_, List.nodup_append.mpr ⟨nd2, by simp, fun x hx y hy e => ?_⟩⟩
      · rcases List.mem_append.mp z with z | z
        · exact nd1 z
        · exact npD (List.mem_singleton.mp z).symm
      · rw [List.mem_singleton.mp hy] at e
        exact npM (e ▸ hx)
  rintro H2 ⟨s2, Ms, hD, hMl, hM, hnd⟩
  rw [List.length_map, hLl] at hMl
  obtain ⟨nd1, nd2⟩ := List.nodup_cons.mp hnd
  have hob2 := s2 _ _ hob1
  refine ⟨_, rfl, a, CS, dx1, _, rfl, hob2, SC.cl, SC.nL, (by show 3 < 1000; decide), ?_⟩
  have ef : putF "lines" (.ref Dl) (stS ta la1 sd) = stS ta Dl sd := by rfl
  rw [ef]
  have hMn : ∀ m ∈ Ms, H1 m = none := fun m hm => by
    obtain ⟨i, hi⟩ := List.mem_iff_getElem?.mp hm
    obtain ⟨_, _, _, _, _, z⟩ := hM i m hi
    exact z
  have hsd2 := s2 _ _ st1.se
  have nsa : sd ≠ a := fun e => naS1 (by rw [← e]; exact List.mem_cons_self ..)
  have nsM : sd ∉ Ms := fun z => by
    have := hMn sd z
    rw [st1.se] at this
    exact nomatch this
  have naM : a ∉ Ms := fun z => by
    have := hMn a z
    rw [hob1] at this
    exact nomatch this
  have naS : a ∉ sd :: Ms := fun z => (List.mem_cons.mp z).elim (fun e => nsa e.symm) naM
  have nDsd : Dl ≠ sd := fun e => by
    rw [e, st1.se] at hDl
    exact nomatch hDl
  have nDS : Dl ∉ sd :: Ms := fun z => (List.mem_cons.mp z).elim nDsd nd1
  have nDa : Dl ≠ a := fun e => by
    rw [e, hob1] at hDl
    exact nomatch hDl
  have gT : Same (offS [a] (offS (sd :: Ls1) H1)) (offS (sd :: Ms) (upd H2 a (.ins CS dx1 (stS ta Dl sd)))) := fun y o h => by
    obtain ⟨n1, h1'⟩ := offS_some h
    obtain ⟨n2, h2'⟩ := offS_some h1'
    rw [offS_ne (fun z => ?_), upd_ne (fun z => n1 (List.mem_singleton.mpr z))]
    · exact s2 _ _ h2'
    · rcases List.mem_cons.mp z with z | z
      · exact n2 (by rw [z]; exact List.mem_cons_self ..)
      · rw [hMn y z] at h2'
        exact nomatch h2'
  have TO := ((st1.tr.off hob1' (tree_ne st1.tr hob1')).same gT)
  have tn3 := (((tn1.1.from (fun y e => s0.free e)).off hob1' (tree_ne st1.tr hob1')).same gT)
  have gH : Same H (offS (sd :: Ms) (upd H2 a (.ins CS dx1 (stS ta Dl sd)))) := fun y o h => by
    rw [offS_ne (fun z => ?_), upd_ne (ne_of_none h ha)]
    · exact s2 _ _ (s1 _ _ h)
    · rcases List.mem_cons.mp z with z | z
      · rw [z, hsd0] at h
        exact nomatch h
      · have := hMn y z
        rw [s1 _ _ h] at this
        exact nomatch this
  have hMH : ∀ (i : Nat) (m : Addr), Ms[i]? = some m → ∃ l xs, Ls[i]? = some l ∧ H l = some (.lst xs) ∧ (upd H2 a (.ins CS dx1 (stS ta Dl sd))) m = some (.lst xs) := fun i m hm => by
    obtain ⟨l, xs, z1, z2, z3, _⟩ := hM i m hm
    refine ⟨l, xs, z1, z2, ?_⟩
    rw [upd_ne (fun e => naM (by rw [← e]; exact List.mem_of_getElem? hm))]
    exact z3
  have st3 : StE K C CS (sd :: Ms) (upd H2 a (.ins CS dx1 (stS ta Dl sd))) a ta Dl sd Ms T L [] := by
    refine ⟨fun y hy => hy, fun y hy => ?_, List.nodup_cons.mpr ⟨nsM, nd2⟩, ⟨dx1, by rw [offS_ne naS]; exact upd_same⟩, TO, (by rw [offS_ne nDS, upd_ne nDa]; exact hD), hMl, fun q hq => ?_, (by rw [upd_ne nsa]; exact hsd2), ok.rk, ok.pw⟩
    · rcases List.mem_cons.mp hy with e | hy
      · rw [e, upd_ne nsa, hsd2]
        exact fun z => nomatch z
      · obtain ⟨i, hi⟩ := List.mem_iff_getElem?.mp hy
        obtain ⟨_, _, _, _, z⟩ := hMH i y hi
        rw [z]
        exact fun z => nomatch z
    · obtain ⟨l, xs, z1, z2, z3⟩ := hli q hq
      have hil := (List.getElem?_eq_some_iff.mp z1).1
      have hmi : Ms[T.idx q]? = some (Ms[T.idx q]'(by rw [hMl, ← hLl]; exact hil)) := List.getElem?_eq_getElem _
      obtain ⟨l', xs', y1, y2, y3⟩ := hMH _ _ hmi
      rw [z1] at y1
      obtain rfl := Option.some.inj y1
      rw [z2] at y2
      injection y2 with y2
      injection y2 with y2
      subst y2
      exact ⟨_, xs, hmi, y3, dps_same gH z3⟩
  have s3 : Same H (upd H2 a (.ins CS dx1 (stS ta Dl sd))) := gH.trans offS_same
  revert st3 s3 tn3
  generalize upd H2 a (.ins CS dx1 (stS ta Dl sd)) = H3
  intro tn3 st3 s3
  have fin : ∀ H' kv', GoS [sd] H3 H' → StE K C CS (sd :: Ms) H' a ta Dl sd Ms T L kv' → SeatN T L kv' (fun i _ => i < T.lf) → kv'.length ≤ 100000 → Q (.ref a) H' := fun H' kv' g st' se hl => by
    refine q H' a ta Dl sd Ms kv' (fun y o h => g.at (s3 _ _ h) fun z => ?_) st' ⟨fun n i p h1 h2 => se.to n i p h1 h2 ?_, se.fr, ok.se.nd⟩ hl (fun y hy => ?_) ha ⟨tn3.same (g.wide fun y hy => by rw [List.mem_singleton.mp hy]; exact List.mem_cons_self ..).s, s1.free hDl⟩
    · rw [List.mem_singleton.mp z, hsd0] at h
      exact nomatch h
    · exact (List.getElem?_eq_some_iff.mp h1).1
    · rcases List.mem_cons.mp hy with e | hy
      · rw [e]
        exact hsd0
      · exact s1.free (hMn y hy)
  obtain ⟨dx3, hob3'⟩ := st3.ob
  have hob3 := (offS_some hob3').2
  obtain ⟨dy, fv', LL, SS, h1, h2, h3, h4⟩ := st3.tr
  have hS8 : (SS 8).length = T.lf := h2.lenL
  have gM : ∀ H', GoS [sd] H3 H' → Same (offS (sd :: Ms) H3) (offS (sd :: Ms) H') := fun H' g => (g.wide fun y hy => by rw [List.mem_singleton.mp hy]; exact List.mem_cons_self ..).s
  refine ⟨_, rfl, a, CS, dx3, _, _, rfl, hob3, SC.cl, SC.nT, rfl, ta, C, dy, _, _, rfl, (offS_some h1.ob).2, TC.cl, TC.n8, stF_8 _ _, LL 8, SS 8, rfl, SqL.of (offS_some (h1.ls 8 (by decide))).2, ?_⟩
  refine for_enumL (K := K) (a := LL 8) (xs := SS 8) (fun i σ H' => ∃ o3 o4 o5 o6 kv', σ = [some fv, some (.ref la), some (.ref a), o3, o4, o5, o6] ∧ GoS [sd] H3 H' ∧ StE K C CS (sd :: Ms) H' a ta Dl sd Ms T L kv' ∧ SeatN T L kv' (fun i' _ => i' < i) ∧ kv'.length ≤ 100 * i)
    ⟨_, _, _, _, [], rfl, GoS.refl, st3, ⟨fun n i p _ _ h => absurd h (Nat.not_lt_zero _), fun k v h => nomatch h⟩, Nat.zero_le _⟩ ?_ ?_ ?_
  · rintro i σ H' ⟨o3, o4, o5, o6, kv', rfl, g, _⟩
    exact SqL.of ((gM H' g).trans offS_same _ _ (h1.ls 8 (by decide)))
  · rintro i x T1 σ H' hx ⟨o3, o4, o5, o6, kv', rfl, g, st', se, hkl⟩ hT1
    have hp8 := h2 8 (by decide)
    have hil := (List.getElem?_eq_some_iff.mp hx).1
    rw [hS8] at hil
    have hpl : (lv T)[i]? = some ((lv T)[i]'hil) := List.getElem?_eq_getElem hil
    generalize (lv T)[i]'hil = p at hpl
    obtain ⟨v8, e8, ev8⟩ := Paired.at hp8 (show (aof 8 T)[i]? = some p from hpl)
    rw [hx] at e8
    obtain rfl := Option.some.inj e8
    obtain rfl : x = .int (T.idx p : Nat) := ev8
    have hpv := List.mem_of_getElem? hpl
    have hT3 : (upd H' T1 (.tup [.int (i : Nat), .int (T.idx p : Nat)])) T1 = some (.tup [.int (i : Nat), .int (T.idx p : Nat)]) := upd_same
    have st4 := st'.same (same_new (o := .tup [.int (i : Nat), .int (T.idx p : Nat)]) hT1)
    have g4 := g.new (v := .tup [.int (i : Nat), .int (T.idx p : Nat)]) hT1
    revert hT3 st4 g4
    generalize upd H' T1 (.tup [.int (i : Nat), .int (T.idx p : Nat)]) = H4
    intro hT3 st4 g4
    refine ⟨T1, _, rfl, SqT.of hT3, rfl, ?_⟩
    refine ⟨_, _, rfl, _, _, rfl, rfl, ?_⟩
    obtain ⟨m, xs, k1, k2, k3⟩ := st4.li _ (lv_ad hpv)
    have hxl := dps_len k3
    rw [List.length_map] at hxl
    have hsz := ok.sz p
    obtain ⟨dx4, hob4⟩ := st4.obj
    have nmsd : m ≠ sd := fun e => nsM (by rw [← e]; exact List.mem_of_getElem? k1)
    refine ⟨_, rfl, a, CS, dx4, _, _, rfl, hob4, SC.cl, SC.nL, rfl, _, rfl, Dl, _, _, _, rfl, rfl, SqL.of st4.lst, (atI_nat (by rw [List.getElem?_map, k1]; rfl)), ?_⟩
    refine ⟨m, rfl, ⟨_, SqL.of k2⟩, ?_⟩
    refine for_list (K := K) (a := m) (xs := xs) (fun j σ H' => ∃ o3 o6 kv', σ = [some fv, some (.ref la), some (.ref a), o3, some (.int (i : Nat)), some (.int (T.idx p : Nat)), o6] ∧ GoS [sd] H4 H' ∧ StE K C CS (sd :: Ms) H' a ta Dl sd Ms T L kv' ∧ SeatN T L kv' (fun i' n => i' < i ∨ (i' = i ∧ n ∈ (its (L p)).take j)) ∧ kv'.length ≤ 100 * i + j)
      ⟨_, _, kv', rfl, GoS.refl, st4, se.imp (fun n i' p' _ _ h => h.elim id fun z => by rw [List.take_zero] at z; exact nomatch z.2), by omega⟩ (fun j σ H' _ ⟨_, _, _, _, g', _⟩ => SqL.of (g'.at k2 fun z => nmsd (List.mem_singleton.mp z))) ?_ ?_
    · rintro j x σ H5 hj ⟨o3, o6, kv5, rfl, g5, st5, se5, hl5⟩
      obtain ⟨e, b, rv, y1, rfl, y2, y3⟩ := dps_en k3 hj
      have hjl := (List.getElem?_eq_some_iff.mp hj).1
      obtain ⟨dx5, hob5⟩ := st5.obj
      have gM5 : Same (offS (sd :: Ms) H4) (offS (sd :: Ms) H5) := (g5.wide fun y hy => by rw [List.mem_singleton.mp hy]; exact List.mem_cons_self ..).s
      have hlf : T.lf ≤ T.nodes := lf_le T
      have hsl := sizeLine_eq
      refine ⟨_, rfl, _, rfl, a, CS, dx5, _, _, rfl, hob5, SC.cl, SC.nS, rfl, _, rfl, b, _, _, _, rfl, rfl, same_sqt offS_same (same_sqt gM5 y2), (show atI [rv, V.int e.2] ((1 : Nat) : Int) = some (V.int e.2) from atI_nat rfl), sd, _, rfl, .inl ⟨kv5, (Sum.inl e.2 : Key), st5.se, rfl, by omega, rfl⟩, ?_⟩
      have hin : e.2 ∈ its (L p) := List.mem_map_of_mem (List.mem_of_getElem? y1)
      refine ⟨o3, _, _, rfl, g5.upd (List.mem_singleton.mpr rfl), st5.setS _, (se5.put ok.se hpl hin).imp (fun n i' p' a1 a2 h => ?_), ?_⟩
      · rcases h with h | ⟨h, h2⟩
        · exact .inl (.inl h)
        · rw [List.take_add_one] at h2
          rcases List.mem_append.mp h2 with h2 | h2
          · exact .inl (.inr ⟨h, h2⟩)
          · refine .inr ⟨h, ?_⟩
            unfold its at h2
            rw [List.getElem?_map, y1] at h2
            simpa using h2
      · have := putK_le kv5 (Sum.inl e.2 : Key) (.int (i : Nat))
        omega
    · rintro σ H5 ⟨o3, o6, kv5, rfl, g5, st5, se5, hl5⟩
      refine ⟨_, _, _, _, kv5, rfl, g4.trans g5, st5, se5.imp (fun n i' p' a1 a2 h => ?_), by omega⟩
      rcases Nat.lt_or_eq_of_le (Nat.lt_succ_iff.mp h) with h | h
      · exact .inl h
      · refine .inr ⟨h, ?_⟩
        subst h
        rw [lv_inj a1 hpl] at a2
        rw [hxl, List.take_of_length_le (by unfold its; rw [List.length_map]; exact Nat.le_refl _)]
        exact a2
  · rintro σ H' ⟨o3, o4, o5, o6, kv', rfl, g, st', se, hkl⟩
    rw [hS8] at se hkl
    have hlf : T.lf ≤ T.nodes := lf_le T
    exact ⟨_, rfl, fin H' kv' g st' se (by omega)⟩
end
end K65
set_option Elab.async false
set_option linter.all false
set_option maxRecDepth 100000
set_option maxHeartbeats 8000000
namespace K65
open PySem PySem.Spec PyProof.Rows L2 Dt
/-! ### the tape -/
def tapeL (ca : Addr) (s : Int) : List V := [.ref ca, .int s]
def Tape (K : PySem.W.Frag) (H : Hp) (tp ca : Addr) : Prop := ∃ (gs : List Int) (s : Int), ca ≠ tp ∧ H tp = some (.lst (tapeL ca s)) ∧ H ca = some (.lst (gs.map V.int)) ∧ gs.length ≤ 1000
theorem Tape.same {K : PySem.W.Frag} {H H' : Hp} {tp ca : Addr} (t : Tape K H tp ca) (e : Same H H') : Tape K H' tp ca := by
  obtain ⟨cs, s, h1, h2, h3, h4⟩ := t
  exact ⟨cs, s, h1, e _ _ h2, e _ _ h3, h4⟩
theorem Tape.some {K : PySem.W.Frag} {H : Hp} {tp ca : Addr} (t : Tape K H tp ca) : ∃ u, H tp = .some u := by
  obtain ⟨cs, s, h1, h2, _⟩ := t
  exact ⟨_, h2⟩
theorem Tape.someC {K : PySem.W.Frag} {H : Hp} {tp ca : Addr} (t : Tape K H tp ca) : ∃ u, H ca = .some u := by
  obtain ⟨cs, s, h1, h2, h3, _⟩ := t
  exact ⟨_, h3⟩
theorem Tape.new {K : PySem.W.Frag} {H : Hp} {tp ca p : Addr} (t : Tape K H tp ca) (h : H p = none) : p ≠ tp := fun z => by
  obtain ⟨u, e⟩ := t.some
  rw [z, e] at h
  exact nomatch h
theorem Tape.newC {K : PySem.W.Frag} {H : Hp} {tp ca p : Addr} (t : Tape K H tp ca) (h : H p = none) : p ≠ ca := fun z => by
  obtain ⟨u, e⟩ := t.someC
  rw [z, e] at h
  exact nomatch h
/-- the tape's two lists -/
abbrev tps (tp ca : Addr) : List Addr := [tp, ca]
structure Rn (K : PySem.W.Frag) (tp ca : Addr) (H H' : Hp) : Prop where
  a : Tape K H tp ca
  b : Tape K H' tp ca
  g : GoS (tps tp ca) H H'
section
variable {K : PySem.W.Frag} {tp ca : Addr} {H H' H1 H2 : Hp}
theorem Rn.refl (t : Tape K H tp ca) : Rn K tp ca H H := ⟨t, t, GoS.refl⟩
theorem Rn.trans (r : Rn K tp ca H H1) (s : Rn K tp ca H1 H2) : Rn K tp ca H H2 := ⟨r.a, s.b, r.g.trans s.g⟩
theorem Rn.of (t : Tape K H tp ca) (s : Same H H') : Rn K tp ca H H' := ⟨t, t.same s, GoS.of s⟩
theorem Rn.same (r : Rn K tp ca H H1) (s : Same H1 H2) : Rn K tp ca H H2 := r.trans (Rn.of r.b s)
theorem Rn.mut {p : Addr} {o : HO} (r : Rn K tp ca H H') (h : H p = none) : Rn K tp ca H (upd H' p o) := by
  refine ⟨r.a, ?_, r.g.mutNew h⟩
  obtain ⟨cs, s, h1, h2, h3, h4⟩ := r.b
  exact ⟨cs, s, h1, by rw [upd_ne (Ne.symm (r.a.new h))]; exact h2, by rw [upd_ne (Ne.symm (r.a.newC h))]; exact h3, h4⟩
theorem Rn.at {a : Addr} {o : HO} (r : Rn K tp ca H H') (h : H a = some o) (ne : a ∉ tps tp ca) : H' a = some o := r.g.at h ne
theorem Rn.free {p : Addr} (r : Rn K tp ca H H') (h : H' p = none) : H p = none := r.g.free h
theorem Rn.gos (r : Rn K tp ca H H') : GoS (tps tp ca) H H' := r.g
theorem tape_gos {M : List Addr} (t : Tape K H tp ca) (g : GoS M H H') (h1 : tp ∉ M) (h2 : ca ∉ M) : Tape K H' tp ca := by
  obtain ⟨cs, s, e1, e2, e3, e4⟩ := t
  exact ⟨cs, s, e1, g.at e2 h1, g.at e3 h2, e4⟩
end
theorem mod_natI (z : Int) {n : Nat} (h : 0 < n) : ∃ r : Nat, r < n ∧ z % (n : Int) = (r : Nat) := by
  have h1 : 0 ≤ z % (n : Int) := Int.emod_nonneg _ (by omega)
  have h2 : z % (n : Int) < (n : Int) := Int.emod_lt_of_pos _ (by omega)
  exact ⟨(z % (n : Int)).toNat, by omega, by omega⟩
def spPick (K : PySem.W.Frag) : Sp := fun vs H Q _ => ∃ (tp ca : Addr) (n : Nat), vs = [.ref tp, .int (n : Nat)] ∧ Tape K H tp ca ∧ 0 < n ∧ n ≤ 1000000000000 ∧ ∀ H' (r : Nat), r < n → Rn K tp ca H H' → Q (.int (r : Nat)) H'
theorem ixN2 {j : Nat} (h : j < 2) : ixN 2 (j : Int) = some j := by
  unfold ixN
  rw [if_pos (by omega), if_pos (by omega)]
  rfl
section
variable {P : Program} {w : World} {K : PySem.W.Frag} {mg : Str → Option Value} {base : Heap} {C U fG : Addr}
theorem ok_pick (D : DefAt K mg "_law_pick" s_law_pick ["tape", "many"]) (T : Txt K mg) : CalX P w K mg base CX0 1 "_law_pick" ["tape", "many"] (spPick K) := by
  refine D.ok sc_law_pick (fun vs H Q E h => ?_) (fun f cdv A outer s H vs Q E hr h => ?_)
  · obtain ⟨tp, ca, n, rfl, _⟩ := h
    rfl
  obtain ⟨tp, ca, n, rfl, ⟨gs, t, hne, h1, h2, h3⟩, h0, hn, q⟩ := h
  have hT : Tape K H tp ca := ⟨gs, t, hne, h1, h2, h3⟩
  refine ⟨_, (pss_cons (ps_if (pt_cmpR op_lt (pv 1) pe_int (nomark _)) 
      (pss_one (ps_ret pe_int)) pss_nil) 
    (pss_cons (ps_set (i := 2) sc_law_pick.nd rfl (.inl rfl) (pe_ix ix_list (pv 0) pe_int (fun _ _ => rfl))) 
    (pss_cons (ps_if (pt_cmpR op_gt (pe_callB call_len_seq (by rfl) T.len PySem.boot_len (pa_cons (pv 2) pa_nil)) pe_int (nomark _)) 
      (pss_cons (ps_set (i := 3) sc_law_pick.nd rfl (.inl rfl) (pe_op op_mod (pe_callTy call_int1 (by rfl) T.int boot_int (pa_cons (pe_ix ix_list (pv 2) pe_int (fun _ _ => rfl)) pa_nil)) (pv 1))) 
      (pss_cons (ps_asg (pe_op op_fdivW (pe_ix ix_list (pv 2) pe_int (fun _ _ => rfl)) (pv 1)) (pg_sub (pv 2) pe_int set_list)) 
      (pss_cons (ps_if (pt_cmpR op_lt (pe_ix ix_list (pv 2) pe_int (fun _ _ => rfl)) pe_int (nomark _)) 
        (pss_one (ps_expr (pe_bm PySem.F.plainAttrs_list PySem.F.slot_list_pop PySem.F.type_list_pop mt_popAt (pv 2) (pa_cons pe_int pa_nil)))) pss_nil) 
      (pss_one (ps_ret (pv 3)))))) pss_nil) 
    (pss_cons (ps_asg (pe_op op_mod (pe_callTy call_int1 (by rfl) T.int boot_int (pa_cons (pe_op op_add (pe_op op_mul (pe_ix ix_list (pv 0) pe_int (fun _ _ => rfl)) pe_int) pe_int) pa_nil)) pe_int) (pg_sub (pv 0) pe_int set_list)) 
    (pss_one (ps_ret (pe_op op_mod (pe_callTy call_int1 (by rfl) T.int boot_int (pa_cons (pe_op op_fdiv (pe_ix ix_list (pv 0) pe_int (fun _ _ => rfl)) pe_int) pa_nil)) (pv 1)))))))), ?_⟩
  refine ⟨_, rfl, _, _, rfl, rfl, _, rfl, ite2 (fun c => ?_) (fun c => ?_)⟩
  · exact q H 0 h0 (Rn.refl hT)
  refine ⟨_, rfl, tp, _, 0, .ref ca, rfl, rfl, SqL.of h1, rfl, ?_⟩
  have hs2 : (0 : Int) < (n : Nat) := by omega
  have hn2 : ((n : Nat) : Int).natAbs < 2 ^ 40 := by omega
  refine ⟨_, rfl, ca, _, rfl, .inl (SqL.of h2), _, _, rfl, rfl, _, rfl, ite2 (fun c2 => ?_) (fun c2 => ?_)⟩
  · cases gs with
    | nil => exact absurd c2 (by decide)
    | cons z gr =>
    refine ⟨_, rfl, ca, _, 0, .int z, rfl, rfl, SqL.of h2, atI_nat (j := 0) rfl, .inl ⟨z, rfl, ?_⟩⟩
    obtain ⟨r, r1, r2⟩ := mod_natI z h0
    refine ⟨_, rfl, _, _, rfl, rfl, hs2, ?_⟩
    refine ⟨_, rfl, ca, _, 0, .int z, rfl, rfl, SqL.of h2, atI_nat (j := 0) rfl, _, rfl, _, _, rfl, rfl, wide_div hs2 hn2 (by decide) (by decide), ?_⟩
    refine ⟨_, rfl, ca, _, 0, 0, rfl, rfl, h2, ixN_nat (j := 0) (by simp), ?_⟩
    have e1 : ((z :: gr).map V.int).set 0 (V.int (z / (n : Nat))) = (z / (n : Nat) :: gr).map V.int := rfl
    show _
    have hT1 : Tape K (upd H ca (.lst ((z / (n : Nat) :: gr).map V.int))) tp ca := ⟨_, t, hne, by rw [upd_ne (Ne.symm hne)]; exact h1, upd_same, h3⟩
    have m1 : ca ∈ tps tp ca := List.mem_cons_of_mem _ (List.mem_singleton.mpr rfl)
    have g1 : GoS (tps tp ca) H (upd H ca (.lst ((z / (n : Nat) :: gr).map V.int))) := GoS.refl.upd m1
    refine ⟨_, rfl, ca, _, 0, .int (z / (n : Nat)), rfl, rfl, SqL.of upd_same, atI_nat (j := 0) rfl, _, _, rfl, rfl, _, rfl, ite2 (fun c => ?_) (fun c => ?_)⟩
    · refine ⟨_, rfl, .inl ⟨rfl, _, SqL.of upd_same⟩, ca, _, 0, 0, _, rfl, rfl, upd_same, by decide, by decide, ?_, rfl, ?_⟩
      · show seqIndex? 0 (((z :: gr).map V.int).set 0 (V.int (z / (n : Nat)))).length = some 0
        rw [List.length_set, List.length_map]
        exact (ixN_seq (ixN_nat (j := 0) (by simp))).1
      refine ⟨_, rfl, ?_⟩
      show Q (.int (z % (n : Nat))) _
      rw [r2]
      refine q _ r r1 ⟨hT, ⟨gr, t, hne, ?_, upd_same, ?_⟩, g1.upd m1⟩
      · rw [upd_ne (Ne.symm hne), upd_ne (Ne.symm hne)]
        exact h1
      · have : (z :: gr).length = gr.length + 1 := rfl
        omega
    · refine ⟨_, rfl, ?_⟩
      show Q (.int (z % (n : Nat))) _
      rw [r2]
      exact q _ r r1 ⟨hT, hT1, g1⟩
  · refine ⟨_, rfl, tp, _, 1, .int t, rfl, rfl, SqL.of h1, rfl, _, _, rfl, rfl, .inr ⟨by decide, by decide⟩, _, _, rfl, rfl, .inl ⟨_, rfl, _, _, rfl, rfl, (show (0 : Int) < 2147483489 by decide), ?_⟩⟩
    obtain ⟨t', ht⟩ : ∃ t', t' = (t * 43991 + 20011) % 2147483489 := ⟨_, rfl⟩
    refine ⟨_, rfl, tp, _, 1, 1, rfl, rfl, h1, rfl, ?_⟩
    have e1 : (upd H tp (.lst (([V.ref ca, V.int t] : List V).set 1 ((fun i j => V.int (i % j)) (t * 43991 + 20011) 2147483489)))) = upd H tp (.lst (tapeL ca t')) := by rw [ht]; rfl
    refine Eq.mpr (by unfold tapeL; rfl) ?_
    obtain ⟨r, r1, r2⟩ := mod_natI (t' / 8) h0
    have hT1 : Tape K (upd H tp (.lst (tapeL ca t'))) tp ca := ⟨gs, t', hne, upd_same, by rw [upd_ne hne]; exact h2, h3⟩
    rw [e1]
    refine ⟨_, rfl, tp, _, 1, .int t', rfl, rfl, SqL.of upd_same, rfl, _, _, rfl, rfl, ⟨by decide, by decide⟩, .inl ⟨_, rfl, _, rfl, _, _, rfl, rfl, hs2, ?_⟩⟩
    show Q (.int (t' / 8 % (n : Nat))) _
    rw [r2]
    exact q _ r r1 ⟨hT, hT1, GoS.refl.upd (List.mem_cons_self ..)⟩
end
/-! ### _law_tape -/
def spTape (K : PySem.W.Frag) : Sp := fun vs H Q _ => ∃ (a : Addr) (ns : List Int), vs = [.ref a] ∧ SqL K H a (ns.map V.int) ∧ ns.length ≤ 63 ∧ ∀ H' tp ca, Same H H' → Tape K H' tp ca → H tp = none → H ca = none → Q (.ref tp) H'
section
variable {P : Program} {w : World} {K : PySem.W.Frag} {mg : Str → Option Value} {base : Heap} {C U fG : Addr}
theorem ok_tape (D : DefAt K mg "_law_tape" s_law_tape ["script"]) (T : Txt K mg) (mabs : mg "abs" = none) : CalX P w K mg base CX0 1 "_law_tape" ["script"] (spTape K) := by
  refine D.ok sc_law_tape (fun vs H Q E h => ?_) (fun f cdv A outer s H vs Q E hr h => ?_)
  · obtain ⟨a, ns, rfl, _⟩ := h
    rfl
  obtain ⟨a, ns, rfl, ha, hl, q⟩ := h
  refine ⟨_, (pss_cons (ps_set (i := 1) sc_law_tape.nd rfl (.inl rfl) pe_int) 
    (pss_cons (ps_set (i := 2) sc_law_tape.nd rfl (.inl rfl) (pe_lst pa_nil)) 
    (pss_cons (ps_for PassesOwn.never rfl (pi_list (pv 0)) (pg_name (i := 3) sc_law_tape.nd rfl (Or.inl rfl)) 
      (pss_cons (ps_set (i := 1) sc_law_tape.nd rfl (.inl rfl) (pe_op op_mod (pe_callTy call_int1 (by rfl) T.int boot_int (pa_cons (pe_op op_add (pe_op op_add (pe_op op_mul (pv 1) pe_int) (pe_op op_mul (pv 3) pe_int)) pe_int) pa_nil)) pe_int)) 
      (pss_one (ps_if (pt_cmpR op_gt (pe_callB call_abs (by rfl) mabs (by decide +kernel) (pa_cons (pv 3) pa_nil)) (pe_op op_pow pe_int pe_int) (nomark _)) 
        (pss_one (ps_expr (pe_bm PySem.F.plainAttrs_list PySem.F.slot_list_append PySem.F.type_list_append mt_append (pv 2) (pa_cons (pe_callB call_abs (by rfl) mabs (by decide +kernel) (pa_cons (pv 3) pa_nil)) pa_nil)))) pss_nil)))) 
    (pss_one (ps_ret (pe_lst (pa_cons (pv 2) (pa_cons (pv 1) pa_nil)))))))), ?_⟩
  refine ⟨(by show 0 ≤ sizeLine; decide), fun g hg => ?_⟩
  refine ⟨_, rfl, a, rfl, ⟨_, (same_new hg).seq ha⟩, for_list (xs := ns.map V.int) (fun i σ H' => ∃ (t : Int) (o3 : Option V) (gs : List Int), σ = [some (.ref a), some (.int t), some (.ref g), o3] ∧ Same H H' ∧ H' g = some (.lst (gs.map V.int)) ∧ gs.length ≤ i) ⟨33391, _, [], rfl, same_new hg, upd_same, Nat.le_refl _⟩ (fun i σ H' _ ⟨t, o3, gs, _, sm, _⟩ => sm.seq ha) ?_ ?_⟩
  · rintro i x σ H' hi ⟨t, o3, gs, rfl, sm, hgs, hgl⟩
    have hil := (List.getElem?_eq_some_iff.mp hi).1
    rw [List.length_map] at hil
    obtain ⟨c, rfl⟩ : ∃ c, x = V.int c := by
      rw [List.getElem?_map] at hi
      obtain ⟨c, _, e⟩ := Option.map_eq_some_iff.mp hi
      exact ⟨c, e.symm⟩
    refine ⟨_, rfl, _, _, rfl, rfl, .inr ⟨by decide, by decide⟩, _, rfl, _, _, rfl, rfl, .inr ⟨by decide, by decide⟩, _, _, rfl, rfl, _, _, rfl, rfl, .inl ⟨_, rfl, _, _, rfl, rfl, (show (0 : Int) < 2147483497 by decide), ?_⟩⟩
    refine ⟨_, rfl, _, rfl, _, _, rfl, rfl, ⟨by decide, by decide, by decide⟩, _, _, rfl, rfl, _, rfl, ite2 (fun _ => ?_) (fun _ => ?_)⟩
    · refine ⟨_, rfl, .inl ⟨rfl, _, SqL.of hgs⟩, _, rfl, _, rfl, g, _, _, rfl, rfl, hgs, small1000 (by rw [List.length_map]; omega), ?_⟩
      exact ⟨_, _, gs ++ [_], rfl, same_mut sm hg, by rw [upd_same, List.map_append]; rfl, by rw [List.length_append]; show gs.length + 1 ≤ i + 1; omega⟩
    · exact ⟨_, _, gs, rfl, sm, hgs, by omega⟩
  · rintro σ H' ⟨t, o3, gs, rfl, sm, hgs, hgl⟩
    rw [List.length_map] at hgl
    refine ⟨_, rfl, _, rfl, (by show 2 ≤ sizeLine; decide), fun tp htp => ?_⟩
    have hne : g ≠ tp := fun z => by rw [← z, hgs] at htp; exact nomatch htp
    exact q _ tp g (sm.trans (same_new htp)) ⟨gs, t, hne, upd_same, by rw [upd_ne hne]; exact hgs, by omega⟩ (sm.free htp) hg
end
end K65
set_option Elab.async false
set_option linter.all false
set_option maxRecDepth 100000
set_option maxHeartbeats 8000000
namespace L2
open PySem PySem.Spec PyProof.Rows
/-- x is b, b a bool, x any plain value -/
theorem op_isFl {X : Cx} : OpR X (compareOp .Is) (fun x y H Q => ∃ b f, y = .bl b ∧ ((f = false ∧ (x = .non ∨ (∃ a, x = V.ref a) ∨ (∃ i, x = V.int i) ∨ ∃ z, x = V.str z)) ∨ ∃ a, x = .bl a ∧ f = decide (a = b)) ∧ Q (.bl f) H) := by
  intro pins s σ H x y v u Q I rx ry h
  obtain ⟨b, f, rfl, h, q⟩ := h
  cases (show u = Value.bool b from ry)
  rcases h with ⟨rfl, rfl | ⟨a, rfl⟩ | ⟨i, rfl⟩ | ⟨z, rfl⟩⟩ | ⟨a, rfl, rfl⟩
  · cases rx
    exact wpAny_is_other rfl (fun z => nomatch z) ⟨.bl false, H, I, rfl, q⟩
  · obtain rfl : v = Value.ref a := rx
    exact wpAny_is_other rfl (fun z => nomatch z) ⟨.bl false, H, I, rfl, q⟩
  · obtain ⟨t, rfl⟩ : ∃ t, v = Value.int i t := rx
    exact wpAny_is_other rfl (fun z => nomatch z) ⟨.bl false, H, I, rfl, q⟩
  · obtain ⟨t, rfl⟩ : ∃ t, v = Value.str z t := rx
    exact wpAny_is_other rfl (fun z => nomatch z) ⟨.bl false, H, I, rfl, q⟩
  · cases (show v = Value.bool a from rx)
    by_cases e : a = b
    · subst e
      exact wpAny_is_self rfl ⟨.bl true, H, I, rfl, by simpa using q⟩
    · exact wpAny_is_other rfl (fun z => e (Value.bool.inj z)) ⟨.bl false, H, I, rfl, by simpa [e] using q⟩
end L2
namespace K65
open PySem PySem.Spec PyProof.Rows L2 Dt
/-- data of tuples and what is flat, so deep; no False -/
def plainT : Nat → PyData → Prop
  | 0, _ => False
  | _ + 1, .list _ => False
  | _ + 1, .dict _ => False
  | n + 1, .tuple ds => ds.length ≤ 1000000 ∧ ∀ d ∈ ds, plainT n d
  | _ + 1, .none => True
  | _ + 1, .bool b => b = true
  | _ + 1, .int _ => True
  | _ + 1, .str _ => True
def spSame (K : PySem.W.Frag) (n : Nat) : Sp := fun vs H Q _ => ∃ (x y : V) (d : PyData), vs = [x, y] ∧ Dp K H x d ∧ Dp K H y d ∧ plainT n d ∧ ∀ H', Same H H' → Q (.bl true) H'
theorem dps_pair {K : PySem.W.Frag} {H : Hp} {xs ys : List V} {ds : List PyData} (hx : DpAll K H xs ds) (hy : DpAll K H ys ds) {i : Nat} (h : i < ds.length) : ∃ v1 v2 d, xs[i]? = some v1 ∧ ys[i]? = some v2 ∧ ds[i]? = some d ∧ Dp K H v1 d ∧ Dp K H v2 d := by
  have l1 := dps_len hx
  have l2 := dps_len hy
  have e1 : xs[i]? = some (xs[i]'(by omega)) := List.getElem?_eq_getElem (by omega)
  have e2 : ys[i]? = some (ys[i]'(by omega)) := List.getElem?_eq_getElem (by omega)
  obtain ⟨d1, f1, g1⟩ := dps_at hx e1
  obtain ⟨d2, f2, g2⟩ := dps_at hy e2
  rw [f1] at f2
  obtain rfl := Option.some.inj f2
  exact ⟨_, _, d1, e1, e2, f1, g1, g2⟩
section
variable {P : Program} {w : World} {K : PySem.W.Frag} {mg : Str → Option Value} {base : Heap} {C U fG : Addr}
theorem ok_same_step {n : Nat} (D : DefAt K mg "_law_same" s_law_same ["told", "due"]) (T0 : Txt K mg) (GSame : CalX P w K mg base CX0 n "_law_same" ["told", "due"] (spSame K n)) : CalX P w K mg base CX0 (n + 1) "_law_same" ["told", "due"] (spSame K (n + 1)) := by
  refine D.ok sc_law_same (fun vs H Q E h => ?_) (fun f cdv A outer s H vs Q E hr h => ?_)
  · obtain ⟨x, y, d, rfl, _⟩ := h
    rfl
  obtain ⟨x, y, d, rfl, hx, hy, hp, q⟩ := h
  refine ⟨_, (pss_cons (ps_if (pt_cmpR op_isN (pv 1) pe_non (nomark _)) 
      (pss_one (ps_ret (pe_cmpR op_isN (pv 0) pe_non (nomark _)))) pss_nil) 
    (pss_cons (ps_if (pt_cmpR op_isFl (pv 1) pe_bl (nomark _)) 
      (pss_one (ps_ret (pe_cmpR op_isFl (pv 0) pe_bl (nomark _)))) pss_nil) 
    (pss_cons (ps_if (pt_val (pe_callB call_isi (by rfl) T0.isinstance boot_isinstance (pa_cons (pv 1) (pa_cons (pe_bltn (v := .ty "str") (by rfl) T0.str (by decide +kernel) rfl) pa_nil)))) 
      (pss_one (ps_ret (pe_and (pe_callB call_isi (by rfl) T0.isinstance boot_isinstance (pa_cons (pv 0) (pa_cons (pe_bltn (v := .ty "str") (by rfl) T0.str (by decide +kernel) rfl) pa_nil))) (pe_one (pe_cmpR op_eq (pv 0) (pv 1) (nomark _)))))) pss_nil) 
    (pss_cons (ps_if (pt_val (pe_callB call_isi (by rfl) T0.isinstance boot_isinstance (pa_cons (pv 1) (pa_cons (pe_bltn (v := .ty "int") (by rfl) T0.int boot_int rfl) pa_nil)))) 
      (pss_one (ps_ret (pe_and (pe_callB call_isi (by rfl) T0.isinstance boot_isinstance (pa_cons (pv 0) (pa_cons (pe_bltn (v := .ty "int") (by rfl) T0.int boot_int rfl) pa_nil))) (pe_and (pe_not (pe_callB call_isi (by rfl) T0.isinstance boot_isinstance (pa_cons (pv 0) (pa_cons (pe_bltn (v := .ty "bool") (by rfl) T0.bool (by decide +kernel) rfl) pa_nil)))) (pe_one (pe_cmpR op_eq (pv 0) (pv 1) (nomark _))))))) pss_nil) 
    (pss_cons (ps_if (PW.pt (pw_or (pt_not (pt_val (pe_callB call_isi (by rfl) T0.isinstance boot_isinstance (pa_cons (pv 1) (pa_cons (pe_bltn (v := .ty "tuple") (by rfl) T0.tuple PyProof.Rows.boot_tuple rfl) pa_nil))))) (pw_or (pt_not (pt_val (pe_callB call_isi (by rfl) T0.isinstance boot_isinstance (pa_cons (pv 0) (pa_cons (pe_bltn (v := .ty "tuple") (by rfl) T0.tuple PyProof.Rows.boot_tuple rfl) pa_nil))))) (pw_or1 (pt_cmpR op_ne (pe_callB call_len_seq (by rfl) T0.len PySem.boot_len (pa_cons (pv 0) pa_nil)) (pe_callB call_len_seq (by rfl) T0.len PySem.boot_len (pa_cons (pv 1) pa_nil)) (nomark _)))))) 
      (pss_one (ps_ret pe_bl)) pss_nil) 
    (pss_cons (ps_for PassesOwn.never rfl (pi_range1 (by rfl) T0.range (pa_cons (pe_callB call_len_seq (by rfl) T0.len PySem.boot_len (pa_cons (pv 1) pa_nil)) pa_nil)) (pg_name (i := 2) sc_law_same.nd rfl (Or.inl rfl)) 
      (pss_one (ps_if (pt_not (pt_val (pe_c0 GSame hr (Nat.le_refl _) rfl (pa_cons (pe_ix ix_seq (pv 0) (pv 2) (fun _ _ => rfl)) (pa_cons (pe_ix ix_seq (pv 1) (pv 2) (fun _ _ => rfl)) pa_nil))))) 
        (pss_one (ps_ret pe_bl)) pss_nil))) 
    (pss_one (ps_ret pe_bl)))))))), ?_⟩
  have kx := kind_dp hx
  have ky := kind_dp hy
  have sH : Same H H := fun _ _ z => z
  cases hx with
  | non =>
    cases hy
    refine ⟨_, rfl, rfl, _, rfl, iteT ?_⟩
    exact ⟨_, rfl, rfl, q H sH⟩
  | bl b =>
    cases hy
    obtain rfl : b = true := hp
    refine ⟨_, rfl, rfl, _, rfl, iteF ?_⟩
    refine ⟨_, rfl, true, true, rfl, .inr ⟨true, rfl, rfl⟩, _, rfl, iteT ?_⟩
    exact ⟨_, rfl, true, true, rfl, .inr ⟨true, rfl, rfl⟩, q H sH⟩
  | int i =>
    cases hy
    refine ⟨_, rfl, rfl, _, rfl, iteF ?_⟩
    refine ⟨_, rfl, true, false, rfl, .inl ⟨rfl, .inr (.inr (.inl ⟨_, rfl⟩))⟩, _, rfl, iteF ?_⟩
    refine isi_read rfl ky.1 (kit_str ky.2) ⟨_, rfl, iteF ?_⟩
    refine isi_read rfl ky.1 (kit_int ky.2) ⟨_, rfl, iteT ?_⟩
    refine isi_read rfl kx.1 (kit_int kx.2) ⟨_, rfl, iteT ?_⟩
    refine isi_read rfl kx.1 (kit_bool kx.2) ⟨_, rfl, ⟨_, rfl, iteT ?_⟩⟩
    refine ⟨_, rfl, _, rfl, rfl, ?_⟩
    have e : (decide (V.int i = V.int i)) = true := decide_eq_true rfl
    rw [e]
    exact q H sH
  | str z =>
    cases hy
    refine ⟨_, rfl, rfl, _, rfl, iteF ?_⟩
    refine ⟨_, rfl, true, false, rfl, .inl ⟨rfl, .inr (.inr (.inr ⟨_, rfl⟩))⟩, _, rfl, iteF ?_⟩
    refine isi_read rfl ky.1 (kit_str ky.2) ⟨_, rfl, iteT ?_⟩
    refine isi_read rfl kx.1 (kit_str kx.2) ⟨_, rfl, iteT ?_⟩
    refine ⟨_, rfl, _, rfl, rfl, ?_⟩
    have e : (decide (V.str z = V.str z)) = true := decide_eq_true rfl
    rw [e]
    exact q H sH
  | @lst a xs ds hsx hax =>
    exact absurd hp (by cases n <;> exact fun h => h)
  | @tup a xs ds hsx hax =>
    cases hy with
    | @tup b ys _ hsy hay =>
    obtain ⟨hp1, hp2⟩ := hp
    have l1 := dps_len hax
    have l2 := dps_len hay
    have hsl := sizeLine_eq
    refine ⟨_, rfl, rfl, _, rfl, iteF ?_⟩
    refine ⟨_, rfl, true, false, rfl, .inl ⟨rfl, .inr (.inl ⟨_, rfl⟩)⟩, _, rfl, iteF ?_⟩
    refine isi_read rfl ky.1 (kit_str ky.2) ⟨_, rfl, iteF ?_⟩
    refine isi_read rfl ky.1 (kit_int ky.2) ⟨_, rfl, iteF ?_⟩
    refine isi_read rfl ky.1 (kit_tup ky.2) ⟨_, rfl, iteF ?_⟩
    refine isi_read rfl kx.1 (kit_tup kx.2) ⟨_, rfl, iteF ?_⟩
    have s1 : Same H H := fun _ _ z => z
    refine ⟨_, rfl, a, xs, rfl, .inr (same_sqt s1 hsx), _, rfl, b, ys, rfl, .inr (same_sqt s1 hsy), rfl, _, rfl, ?_⟩
    rw [l1, l2]
    have e : (decide (V.int (ds.length : Nat) = V.int (ds.length : Nat))) = true := decide_eq_true rfl
    rw [e]
    refine iteF ?_
    refine ⟨_, rfl, b, ys, rfl, .inr (same_sqt s1 hsy), ?_⟩
    rw [l2]
    refine ⟨_, rfl, by omega, by omega, for_range (lo := 0) (n := ds.length) (fun i σ H' => ∃ o2, σ = [some (.ref a), some (.ref b), o2] ∧ Same H H') ⟨none, rfl, s1⟩ ?_ ?_⟩
    · rintro i σ H' hi ⟨o2, rfl, sm⟩
      obtain ⟨v1, v2, d, e1, e2, e3, g1, g2⟩ := dps_pair hax hay hi
      refine ⟨_, rfl, _, rfl, .inr (.inl ⟨a, xs, _, _, rfl, rfl, same_sqt sm hsx, (by rw [Int.zero_add]; exact atI_nat e1), _, rfl, _, rfl, .inr (.inl ⟨b, ys, _, _, rfl, rfl, same_sqt sm hsy, (by rw [Int.zero_add]; exact atI_nat e2), v1, v2, d, rfl, dp_same sm g1, dp_same sm g2, hp2 _ (List.mem_of_getElem? e3), fun H2 sm2 => ⟨_, rfl, ?_⟩⟩)⟩)⟩
      refine iteF ?_
      exact ⟨_, rfl, sm.trans sm2⟩
    · rintro σ H' ⟨o2, rfl, sm⟩
      exact q H' sm
theorem ok_same (D : DefAt K mg "_law_same" s_law_same ["told", "due"]) (T : Txt K mg) : ∀ n : Nat, CalX P w K mg base CX0 n "_law_same" ["told", "due"] (spSame K n)
  | 0 => by
    obtain ⟨f, fd, F, m, b⟩ := D.ex
    have no : ∀ vs H Q E, ¬ spSame K 0 vs H Q E := fun vs H Q E h => by
      obtain ⟨x, y, d, _, _, _, h, _⟩ := h
      exact h
    exact ⟨f, fd, ⟨fun vs H Q E h => absurd h (no vs H Q E), fun A outer s H args us vs Q E _ _ _ _ h => absurd h (no vs H Q E)⟩, m, F.kp, b, fun_lk F⟩
  | n + 1 => ok_same_step D T (ok_same D T n)
end
end K65
set_option Elab.async false
set_option linter.all false
set_option maxRecDepth 100000
set_option maxHeartbeats 4000000
namespace K65
open PySem PySem.Spec PyProof.Rows L2 Dt
/-! ### written data -/
def DpFs (K : PySem.W.Frag) (H H' : Hp) (vs : List V) (ds : List PyData) : Prop := ∀ H2, (∀ b u, H b = none → H' b = some u → H2 b = some u) → DpAll K H2 vs ds
def DV (K : PySem.W.Frag) (t : TE) (σ : L2.St) (d : PyData) : Prop := ∀ (H : Hp) (Q : VK), (∀ v H', Same H H' → DpF K H H' v d → Q v H') → t σ H Q
def DVs (K : PySem.W.Frag) (t : TA) (σ : L2.St) (ds : List PyData) : Prop := ∀ (H : Hp) (Q : List V → Hp → Prop), (∀ vs H', Same H H' → DpFs K H H' vs ds → Q vs H') → t σ H Q
section
variable {K : PySem.W.Frag} {σ : L2.St}
theorem same_refl {H : Hp} : Same H H := fun _ _ h => h
theorem dvs_nil : DVs K tNil σ [] := fun H Q q => q [] H same_refl fun _ _ => .nil
theorem dvs_cons {te : TE} {ta : TA} {d : PyData} {ds : List PyData} (h : DV K te σ d) (hs : DVs K ta σ ds) : DVs K (tCons te ta) σ (d :: ds) := fun H Q q =>
  h H _ fun v H1 s1 f1 => hs H1 _ fun vs H2 s2 f2 => q (v :: vs) H2 (s1.trans s2) fun H3 hk =>
    .cons (f1 H3 fun b u a1 a2 => hk b u a1 (s2 _ _ a2)) (f2 H3 fun b u a1 a2 => hk b u (s1.free a1) a2)
theorem dv_int {i : Int} : DV K (tC (.int i)) σ (.int i) := fun H Q q => q _ H same_refl fun _ _ => .int i
theorem dv_bl {b : Bool} : DV K (tC (.bl b)) σ (.bool b) := fun H Q q => q _ H same_refl fun _ _ => .bl b
theorem dv_non : DV K (tC .non) σ .none := fun H Q q => q _ H same_refl fun _ _ => .non
theorem dv_str {z : Str} : DV K (tC (.str z)) σ (.str z) := fun H Q q => q _ H same_refl fun _ _ => .str z
theorem dv_vint {k : Nat} {i : Int} (h : σ[k]? = some (some (.int i))) : DV K (tVar k) σ (.int i) := fun H Q q => ⟨_, h, q _ H same_refl fun _ _ => .int i⟩
theorem dv_neg {te : TE} {i j : Int} (h : ∀ H Q, Q (.int i) H → te σ H Q) (e : -i = j) : DV K (tUn (rU fun i => .int (-i)) te) σ (.int j) := fun H Q q => h H _ ⟨i, rfl, by
  show Q (.int (-i)) H
  rw [e]
  exact q _ H same_refl fun _ _ => .int j⟩
theorem dv_sub {te tf : TE} {i k j : Int} (h : ∀ H Q, Q (.int i) H → te σ H Q) (h' : ∀ H Q, Q (.int k) H → tf σ H Q) (e : i - k = j) : DV K (tOp (rI0 fun i j => .int (i - j)) te tf) σ (.int j) := fun H Q q => h H _ (h' H _ ⟨i, k, rfl, rfl, by
  show Q (.int (i - k)) H
  rw [e]
  exact q _ H same_refl fun _ _ => .int j⟩)
theorem dv_tup {ta : TA} {ds : List PyData} (h : DVs K ta σ ds) (hl : ds.length ≤ 1000) : DV K (tTup ta) σ (.tuple ds) := fun H Q q => h H _ fun vs H1 s1 f1 => by
  have hl1 := dps_len (f1 H1 fun _ _ _ e => e)
  have hsl := sizeLine_eq
  refine ⟨by omega, fun p hp => q _ _ (s1.trans (same_new hp)) fun H2 hk => .tup (SqT.of (hk p _ (s1.free hp) upd_same)) (f1 H2 fun b u a1 a2 => hk b u a1 ((same_new hp : Same H1 _) _ _ a2))⟩
theorem dv_lst {ta : TA} {ds : List PyData} (h : DVs K ta σ ds) (hl : ds.length ≤ 1000) : DV K (tLst ta) σ (.list ds) := fun H Q q => h H _ fun vs H1 s1 f1 => by
  have hl1 := dps_len (f1 H1 fun _ _ _ e => e)
  have hsl := sizeLine_eq
  refine ⟨by omega, fun p hp => q _ _ (s1.trans (same_new hp)) fun H2 hk => .lst (SqL.of (hk p _ (s1.free hp) upd_same)) (f1 H2 fun b u a1 a2 => hk b u a1 ((same_new hp : Same H1 _) _ _ a2))⟩
end
/-- a written menu -/
def tMenu (K : PySem.W.Frag) (C : L2.St → Prop) (ds : List PyData) : TE := fun σ H Q => C σ ∧ ∀ p vs H', Same H H' → H p = none → H' p = some (.tup vs) → DpFs K H H' vs ds → Q (.ref p) H'
theorem dv_menu {K : PySem.W.Frag} {ta : TA} {σ : L2.St} {ds : List PyData} {H : Hp} {Q : VK} (h : DVs K ta σ ds) (hl : ds.length ≤ 1000) (q : ∀ p vs H', Same H H' → H p = none → H' p = some (.tup vs) → DpFs K H H' vs ds → Q (.ref p) H') : tTup ta σ H Q := h H _ fun vs H1 s1 f1 => by
  have hl1 := dps_len (f1 H1 fun _ _ _ e => e)
  have hsl := sizeLine_eq
  exact ⟨by omega, fun p hp => q p vs _ (s1.trans (same_new hp)) (s1.free hp) upd_same fun H2 hk => f1 H2 fun b u a1 a2 => hk b u a1 ((same_new hp : Same H1 _) _ _ a2)⟩
/-! ### an item of a menu -/
theorem DpF.same {K : PySem.W.Frag} {H H1 H2 : Hp} {v : V} {d : PyData} (f : DpF K H H1 v d) (s : Same H1 H2) : DpF K H H2 v d := fun H3 hk => f H3 fun b u h1 h2 => hk b u h1 (s _ _ h2)
def rLenQ (K : PySem.W.Frag) : List V → Hp → VK → Prop := fun xs H Q => ∃ p ys, xs = [.ref p] ∧ (SqL K H p ys ∨ SqT K H p ys) ∧ Q (.int ys.length) H
/-! ### powers of two -/
theorem shl_of {k n : Int} (hk : 0 ≤ k ∧ k ≤ 1000000) (e : (1 : Int) * 2 ^ k.toNat = n) : ∀ (σ : L2.St) (H : Hp) (Q : VK), tC (.int n) σ H Q → tOp (rI CPow fun i j => .int (i * 2 ^ j.toNat)) (tC (.int 1)) (tC (.int k)) σ H Q := by
  rintro σ H Q q
  refine ⟨1, k, rfl, rfl, ⟨hk.1, hk.2, by decide⟩, ?_⟩
  show Q (.int ((1 : Int) * 2 ^ k.toNat)) H
  rw [e]
  exact q
def edgeI : Int := 1606938044258990275541962092341162602522202993782792835301375
/-! ### plain data, by a test -/
def plainB : Nat → PyData → Bool
  | 0, _ => false
  | _ + 1, .none => true
  | _ + 1, .bool _ => true
  | _ + 1, .int _ => true
  | _ + 1, .str _ => true
  | n + 1, .tuple ds => decide (ds.length ≤ 1000) && ds.all (plainB n)
  | n + 1, .list ds => decide (ds.length ≤ 1000) && ds.all (plainB n)
  | _, _ => false
theorem plainB_ok : ∀ (n : Nat) (d : PyData), plainB n d = true → plainN n d
  | 0, d, h => by cases d <;> exact nomatch h
  | n + 1, d, h => by
    cases d with
    | none => trivial
    | bool _ => trivial
    | int _ => trivial
    | str _ => trivial
    | tuple ds =>
      have h' : (decide (ds.length ≤ 1000) && ds.all (plainB n)) = true := h
      rw [Bool.and_eq_true, List.all_eq_true] at h'
      exact ⟨of_decide_eq_true h'.1, fun d hd => plainB_ok n d (h'.2 d hd)⟩
    | list ds =>
      have h' : (decide (ds.length ≤ 1000) && ds.all (plainB n)) = true := h
      rw [Bool.and_eq_true, List.all_eq_true] at h'
      exact ⟨of_decide_eq_true h'.1, fun d hd => plainB_ok n d (h'.2 d hd)⟩
    | dict _ => exact nomatch h
theorem plainN_mono : ∀ (n m : Nat) (d : PyData), n ≤ m → plainN n d → plainN m d
  | 0, _, d, _, h => by cases d <;> exact False.elim h
  | n + 1, 0, d, h, _ => by omega
  | n + 1, m + 1, d, hm, h => by
    cases d with
    | none => trivial
    | bool _ => trivial
    | int _ => trivial
    | str _ => trivial
    | tuple ds => exact ⟨h.1, fun d hd => plainN_mono n m d (by omega) (h.2 d hd)⟩
    | list ds => exact ⟨h.1, fun d hd => plainN_mono n m d (by omega) (h.2 d hd)⟩
    | dict _ => exact False.elim h
def GoD (S : List Addr) (H H' : Hp) : Prop := Same (offS S H) (offS S H')
theorem GoD.refl {S : List Addr} {H : Hp} : GoD S H H := fun _ _ h => h
theorem GoD.trans {S : List Addr} {H H1 H2 : Hp} (a : GoD S H H1) (b : GoD S H1 H2) : GoD S H H2 := fun x o h => b x o (a x o h)
theorem GoD.of {S : List Addr} {H H' : Hp} (e : Same H H') : GoD S H H' := fun x o h => by
  obtain ⟨h1, h2⟩ := offS_some h
  rw [offS_ne h1]
  exact e x o h2
theorem GoD.upd {S : List Addr} {H H' : Hp} {p : Addr} {o : HO} (g : GoD S H H') (h : p ∈ S) : GoD S H (L2.upd H' p o) := fun x u e => by
  obtain ⟨h1, h2⟩ := offS_some (g x u e)
  rw [offS_ne h1, upd_ne (fun z => h1 (by rw [z]; exact h))]
  exact h2
theorem DpF.offS {K : PySem.W.Frag} {S : List Addr} {H H' : Hp} {v : V} {d : PyData} (f : DpF K H H' v d) (h : ∀ a ∈ S, H a ≠ none) : Dp K (K65.offS S H') v d := f _ fun b u h1 h2 => by
  rw [offS_ne (fun z => h b z h1)]
  exact h2
theorem dp_onS {K : PySem.W.Frag} {S : List Addr} {H : Hp} {v : V} {d : PyData} (h : Dp K (offS S H) v d) : Dp K H v d := dp_same offS_same h
theorem cut_take (xs : List V) (k : Nat) : cutV xs none (some (k : Int)) = xs.take k := by
  unfold cutV
  rw [HT.sIx_none, HT.sIx_nat]
  show (xs.drop 0).take (min k xs.length - 0) = _
  rw [List.drop_zero, Nat.sub_zero]
  by_cases h : k ≤ xs.length
  · rw [Nat.min_eq_left h]
  · rw [Nat.min_eq_right (by omega), List.take_length, List.take_of_length_le (by omega)]
theorem dps_take {K : PySem.W.Frag} {H : Hp} : ∀ {vs : List V} {ds : List PyData} (n : Nat), DpAll K H vs ds → DpAll K H (vs.take n) (ds.take n)
  | _, _, 0, _ => by rw [List.take_zero, List.take_zero]; exact .nil
  | _, _, n + 1, .nil => .nil
  | _, _, n + 1, .cons h q => .cons h (dps_take n q)
theorem dps_drop {K : PySem.W.Frag} {H : Hp} : ∀ {vs : List V} {ds : List PyData} (n : Nat), DpAll K H vs ds → DpAll K H (vs.drop n) (ds.drop n)
  | _, _, 0, h => h
  | _, _, n + 1, .nil => .nil
  | _, _, n + 1, .cons h q => dps_drop n q
/-! ### expressions whose values are data -/
def InD (S : List Addr) (H : Hp) : Prop := ∀ a ∈ S, H a ≠ none
theorem InD.same {S : List Addr} {H H' : Hp} (h : InD S H) (s : Same H H') : InD S H' := fun a ha e => h a ha (s.free e)
theorem InD.new {S : List Addr} {H : Hp} {p : Addr} (h : InD S H) (hp : H p = none) : p ∉ S := fun z => h p z hp
def PV (K : PySem.W.Frag) (S : List Addr) (te : TE) (σ : L2.St) (H : Hp) (d : PyData) : Prop := ∀ H1, Same H H1 → ∀ Q : VK, (∀ v H2, Same H1 H2 → Dp K (offS S H2) v d → Q v H2) → te σ H1 Q
def PVs (K : PySem.W.Frag) (S : List Addr) (ta : TA) (σ : L2.St) (H : Hp) (ds : List PyData) : Prop := ∀ H1, Same H H1 → ∀ Q : List V → Hp → Prop, (∀ vs H2, Same H1 H2 → DpAll K (offS S H2) vs ds → Q vs H2) → ta σ H1 Q
/-- a number that is found without a change -/
def PN (te : TE) (σ : L2.St) (k : Int) : Prop := ∀ H Q, Q (.int k) H → te σ H Q
section
variable {K : PySem.W.Frag} {S : List Addr} {σ : L2.St} {H : Hp} {te tf : TE} {ta : TA} {d : PyData} {ds es : List PyData}
theorem pv_use {Q : VK} (h : PV K S te σ H d) (q : ∀ v H', Same H H' → Dp K (offS S H') v d → Q v H') : te σ H Q := h H same_refl Q q
theorem pn_c {k : Int} : PN (tC (.int k)) σ k := fun _ _ q => q
theorem pn_v {i : Nat} {k : Int} (h : σ[i]? = some (some (.int k))) : PN (tVar i) σ k := fun _ _ q => ⟨_, h, q⟩
theorem pn_add {k m : Int} (a : PN te σ k) (b : PN tf σ m) : PN (tOp (rI0 fun i j => .int (i + j)) te tf) σ (k + m) := fun H Q q => a H _ (b H _ ⟨k, m, rfl, rfl, q⟩)
theorem pn_sub {k m : Int} (a : PN te σ k) (b : PN tf σ m) : PN (tOp (rI0 fun i j => .int (i - j)) te tf) σ (k - m) := fun H Q q => a H _ (b H _ ⟨k, m, rfl, rfl, q⟩)
theorem pn_neg {k : Int} (a : PN te σ k) : PN (tUn (rU fun i => .int (-i)) te) σ (-k) := fun H Q q => a H _ ⟨k, rfl, q⟩
theorem pv_var {i : Nat} {v : V} (h : σ[i]? = some (some v)) (hd : Dp K (offS S H) v d) : PV K S (tVar i) σ H d := fun H1 s Q q => ⟨v, h, q v H1 same_refl (dp_same (GoD.of s) hd)⟩
theorem pv_n {k : Int} (h : PN te σ k) : PV K S te σ H (.int k) := fun H1 s Q q => h H1 Q (q _ H1 same_refl (.int k))
theorem pv_int {i : Int} : PV K S (tC (.int i)) σ H (.int i) := fun H1 s Q q => q _ H1 same_refl (.int i)
theorem pv_bl {b : Bool} : PV K S (tC (.bl b)) σ H (.bool b) := fun H1 s Q q => q _ H1 same_refl (.bl b)
theorem pv_non : PV K S (tC .non) σ H .none := fun H1 s Q q => q _ H1 same_refl .non
theorem pv_str {z : Str} : PV K S (tC (.str z)) σ H (.str z) := fun H1 s Q q => q _ H1 same_refl (.str z)
theorem pvs_nil : PVs K S tNil σ H [] := fun H1 s Q q => q [] H1 same_refl .nil
theorem pvs_cons (h : PV K S te σ H d) (hs : PVs K S ta σ H ds) : PVs K S (tCons te ta) σ H (d :: ds) := fun H1 s Q q => h H1 s _ fun v H2 s2 h2 => hs H2 (s.trans s2) _ fun vs H3 s3 h3 => q (v :: vs) H3 (s2.trans s3) (.cons (dp_same (GoD.of s3) h2) h3)
theorem sqt_offS {H : Hp} {p : Addr} {xs : List V} (h : H p = some (.tup xs)) (n : p ∉ S) : SqT K (offS S H) p xs := SqT.of (by rw [offS_ne n]; exact h)
theorem sql_offS {H : Hp} {p : Addr} {xs : List V} (h : H p = some (.lst xs)) (n : p ∉ S) : SqL K (offS S H) p xs := SqL.of (by rw [offS_ne n]; exact h)
theorem pv_tup (hS : InD S H) (h : PVs K S ta σ H ds) (hl : ds.length ≤ 1000) : PV K S (tTup ta) σ H (.tuple ds) := fun H1 s Q q => h H1 s _ fun vs H2 s2 h2 => by
  have hl1 := dps_len h2
  have hsl := sizeLine_eq
  exact ⟨by omega, fun p hp => q _ _ (s2.trans (same_new hp)) (.tup (sqt_offS upd_same (((hS.same s).same s2).new hp)) (dps_same (GoD.of (same_new hp)) h2))⟩
theorem pv_lst (hS : InD S H) (h : PVs K S ta σ H ds) (hl : ds.length ≤ 1000) : PV K S (tLst ta) σ H (.list ds) := fun H1 s Q q => h H1 s _ fun vs H2 s2 h2 => by
  have hl1 := dps_len h2
  have hsl := sizeLine_eq
  exact ⟨by omega, fun p hp => q _ _ (s2.trans (same_new hp)) (.lst (sql_offS upd_same (((hS.same s).same s2).new hp)) (dps_same (GoD.of (same_new hp)) h2))⟩
theorem pv_cat (hS : InD S H) (ha : PV K S te σ H (.tuple ds)) (hb : PV K S tf σ H (.tuple es)) (hl : ds.length + es.length ≤ 10000) : PV K S (tOp (rCatA K) te tf) σ H (.tuple (ds ++ es)) := fun H1 s Q q => ha H1 s _ fun v1 H2 s2 h2 => hb H2 (s.trans s2) _ fun v2 H3 s3 h3 => by
  have h2' := dp_same (GoD.of s3) h2
  cases h2' with
  | @tup a xs _ hs1 ha1 =>
  cases h3 with
  | @tup b ys _ hs3 ha3 =>
  have l1 := dps_len ha1
  have l2 := dps_len ha3
  have hsl := sizeLine_eq
  have hd3 : DpAll K (offS S H3) (xs ++ ys) (ds ++ es) := dps_app ha1 ha3
  refine ⟨a, b, xs, ys, rfl, rfl, same_sqt offS_same hs1, same_sqt offS_same hs3, by omega, fun e => ?_, fun _ e => ?_, fun _ _ p hp => ?_⟩
  · subst e
    exact q _ H3 (s2.trans s3) (.tup hs3 hd3)
  · subst e
    rw [List.append_nil] at hd3
    exact q _ H3 (s2.trans s3) (.tup hs1 hd3)
  · exact q _ _ (s2.trans (s3.trans (same_new hp))) (.tup (sqt_offS upd_same ((((hS.same s).same s2).same s3).new hp)) (dps_same (GoD.of (same_new hp)) hd3))
theorem rSlA_off (hS : InD S H) {a : Addr} {xs : List V} {lo hi : Option Int} {Q : VK} (ha : SqT K (offS S H) a xs) (h : ∀ tp H2, Same H H2 → SqT K (offS S H2) tp (cutV xs lo hi) → Q (.ref tp) H2) : rSlA K (.ref a) lo hi H Q := by
  refine ⟨a, xs, rfl, same_sqt offS_same ha, fun e => ?_, fun e p hp => h p _ (same_new hp) (sqt_offS upd_same (hS.new hp))⟩
  refine h a H (fun _ _ z => z) ?_
  have : cutV xs lo hi = xs := by
    unfold cutV
    rw [e.1, e.2, List.drop_zero, Nat.sub_zero, List.take_length]
  rw [this]
  exact ha
theorem pv_take (hS : InD S H) (ha : PV K S te σ H (.tuple ds)) {k : Nat} (hk : PN tf σ (k : Nat)) : PV K S (tSl (rSlA K) te tNoPart (tPart tf)) σ H (.tuple (ds.take k)) := fun H1 s Q q => ha H1 s _ fun v1 H2 s2 h2 => by
  cases h2 with
  | @tup a xs _ hs1 ha1 =>
  refine hk H2 _ ⟨_, rfl, rSlA_off ((hS.same s).same s2) hs1 fun t H3 s3 ht => ?_⟩
  rw [cut_take] at ht
  exact q _ H3 (s2.trans s3) (.tup ht (dps_take k (dps_same (GoD.of s3) ha1)))
theorem pv_drop (hS : InD S H) (ha : PV K S te σ H (.tuple ds)) {k : Nat} (hk : PN tf σ (k : Nat)) : PV K S (tSl (rSlA K) te (tPart tf) tNoPart) σ H (.tuple (ds.drop k)) := fun H1 s Q q => ha H1 s _ fun v1 H2 s2 h2 => by
  cases h2 with
  | @tup a xs _ hs1 ha1 =>
  refine hk H2 _ ⟨_, rfl, rSlA_off ((hS.same s).same s2) hs1 fun t H3 s3 ht => ?_⟩
  rw [cut_drop] at ht
  exact q _ H3 (s2.trans s3) (.tup ht (dps_drop k (dps_same (GoD.of s3) ha1)))
theorem pv_ix (ha : PV K S te σ H (.tuple ds)) {k : Nat} (hk : PN tf σ (k : Nat)) (hd : ds[k]? = some d) : PV K S (tOp (rIxT K) te tf) σ H d := fun H1 s Q q => ha H1 s _ fun v1 H2 s2 h2 => by
  cases h2 with
  | @tup a xs _ hs1 ha1 =>
  have hl := dps_len ha1
  have hkl := (List.getElem?_eq_some_iff.mp hd).1
  have hx : xs[k]? = some (xs[k]'(by omega)) := List.getElem?_eq_getElem (by omega)
  obtain ⟨d', e1, e2⟩ := dps_at ha1 hx
  rw [hd] at e1
  obtain rfl := Option.some.inj e1
  exact hk H2 _ ⟨a, xs, _, _, rfl, rfl, same_sqt offS_same hs1, atI_nat hx, q _ H2 s2 e2⟩
/-- len of data -/
theorem pn_len {v : V} {i : Nat} {r : List V → Hp → VK → Prop} {Q : VK} (hr : r = rLenQ K) (h : σ[i]? = some (some v)) (hd : Dp K (offS S H) v (.tuple ds)) (q : Q (.int (ds.length : Nat)) H) : tCB r (tCons (tVar i) tNil) σ H Q := by
  subst hr
  cases hd with
  | @tup a xs _ hs ha =>
  refine ⟨_, h, a, xs, rfl, .inr (same_sqt offS_same hs), ?_⟩
  rw [dps_len ha]
  exact q
end
end K65
set_option Elab.async false
set_option linter.all false
set_option maxRecDepth 100000
set_option maxHeartbeats 4000000
namespace K65
open PySem PySem.Spec PyProof.Rows L2 Dt
mutual
def dtOf : PyData → Dt
  | .tuple ds => dtRow ds
  | _ => .x
def dtRow : List PyData → Dt
  | [] => .o
  | d :: ds => .c (dtOf d) (dtRow ds)
end
theorem dtf_of {K : PySem.W.Frag} {H : Hp} : ∀ {vs : List V} {ds : List PyData}, DpAll K H vs ds → DtF K H vs (dtRow ds)
  | _, _, .nil => by
    unfold dtRow
    exact .nil
  | _, _, @DpAll.cons _ _ v vs d ds h q => by
    have hq := dtf_of q
    unfold dtRow
    have hk := kind_dp h
    cases h with
    | tup hs ha =>
      have h2 := dtf_of ha
      show DtF K H _ (.c (dtOf (.tuple _)) _)
      unfold dtOf
      exact .tup hs h2 hq
    | non => exact .bad hk (by simp [kindOf]) hq
    | bl b => exact .bad hk (by simp [kindOf]) hq
    | int i => exact .bad hk (by simp [kindOf]) hq
    | str z => exact .bad hk (by simp [kindOf]) hq
    | lst _ _ => exact .bad hk (by simp [kindOf]) hq
theorem dtv_of {K : PySem.W.Frag} {H : Hp} {v : V} {d : PyData} (h : Dp K H v d) : DtV K H v (dtOf d) := by
  have hk := kind_dp h
  cases h with
  | tup hs ha =>
    unfold dtOf
    exact .inr ⟨_, _, rfl, hs, dtf_of ha⟩
  | non => exact .inl ⟨by unfold dtOf; rfl, _, hk, by simp [kindOf]⟩
  | bl b => exact .inl ⟨by unfold dtOf; rfl, _, hk, by simp [kindOf]⟩
  | int i => exact .inl ⟨by unfold dtOf; rfl, _, hk, by simp [kindOf]⟩
  | str z => exact .inl ⟨by unfold dtOf; rfl, _, hk, by simp [kindOf]⟩
  | lst _ _ => exact .inl ⟨by unfold dtOf; rfl, _, hk, by simp [kindOf]⟩
def Shp (n : Nat) (d : PyData) : Prop := d.canLay0 = true ∧ d.depth ≤ n
theorem shps {n : Nat} : ∀ {ds : List PyData}, (∀ e ∈ ds, Shp n e) → PyData.canLayAll0 ds = true ∧ PyData.depthAll ds ≤ n
  | [], _ => ⟨rfl, Nat.zero_le _⟩
  | d :: ds, h => by
    obtain ⟨h1, h2⟩ := shps (n := n) (ds := ds) fun e he => h e (List.mem_cons_of_mem _ he)
    obtain ⟨h3, h4⟩ := h d (List.mem_cons_self ..)
    rw [PyData.canLayAll0, PyData.depthAll, h1, h3]
    exact ⟨rfl, by omega⟩
theorem shp_tup {n : Nat} {ds : List PyData} (h : ∀ e ∈ ds, Shp n e) : Shp (n + 1) (.tuple ds) := by
  obtain ⟨h1, h2⟩ := shps h
  unfold Shp
  rw [PyData.canLay0, PyData.depth]
  exact ⟨h1, by omega⟩
theorem shp_lst {n : Nat} {ds : List PyData} (h : ∀ e ∈ ds, Shp n e) : Shp (n + 1) (.list ds) := by
  obtain ⟨h1, h2⟩ := shps h
  unfold Shp
  rw [PyData.canLay0, PyData.depth]
  exact ⟨h1, by omega⟩
theorem shp_int {n : Nat} {i : Int} : Shp n (.int i) := by
  unfold Shp
  rw [PyData.canLay0, PyData.depth]
  exact ⟨rfl, Nat.zero_le _⟩
theorem shp_ints {n : Nat} {l : List Int} : Shp (n + 1) (intsD l) := shp_tup fun e he => by
  obtain ⟨i, _, rfl⟩ := List.mem_map.mp he
  exact shp_int
theorem Shp.mono {n m : Nat} {d : PyData} (h : Shp n d) (k : n ≤ m) : Shp m d := ⟨h.1, Nat.le_trans h.2 k⟩
theorem Shp.ok {n : Nat} {d : PyData} (h : Shp n d) (k : n ≤ 64) : SeqAt.shaped d = true := by
  unfold SeqAt.shaped
  rw [h.1, decide_eq_true (Nat.le_trans h.2 k)]
  rfl
/-! ### lists of data beside a tape -/
def LVal (K : PySem.W.Frag) (S : List Addr) (H : Hp) (v : V) (ds : List PyData) : Prop := ∃ l xs, v = .ref l ∧ offS S H l = some (.lst xs) ∧ DpAll K (offS S H) xs ds
def PL (K : PySem.W.Frag) (S : List Addr) (te : TE) (σ : L2.St) (H : Hp) (ds : List PyData) : Prop := ∀ H1, Same H H1 → ∀ Q : VK, (∀ v H2, Same H1 H2 → LVal K S H2 v ds → Q v H2) → te σ H1 Q
section
variable {K : PySem.W.Frag} {S : List Addr} {σ : L2.St} {H : Hp} {te tf tg : TE} {ta : TA} {d : PyData} {ds es : List PyData}
theorem LVal.go {H' : Hp} {v : V} (h : LVal K S H v ds) (g : GoD S H H') : LVal K S H' v ds := by
  obtain ⟨l, xs, rfl, h1, h2⟩ := h
  exact ⟨l, xs, rfl, g _ _ h1, dps_same g h2⟩
theorem pl_use {Q : VK} (h : PL K S te σ H ds) (q : ∀ v H', Same H H' → LVal K S H' v ds → Q v H') : te σ H Q := h H same_refl Q q
theorem pl_var {i : Nat} {v : V} (h : σ[i]? = some (some v)) (hd : LVal K S H v ds) : PL K S (tVar i) σ H ds := fun H1 s Q q => ⟨v, h, q v H1 same_refl (hd.go (GoD.of s))⟩
theorem pl_lst (hS : InD S H) (h : PVs K S ta σ H ds) (hl : ds.length ≤ 1000) : PL K S (tLst ta) σ H ds := fun H1 s Q q => h H1 s _ fun vs H2 s2 h2 => by
  have hl1 := dps_len h2
  have hsl := sizeLine_eq
  exact ⟨by omega, fun p hp => q _ _ (s2.trans (same_new hp)) ⟨p, vs, rfl, by rw [offS_ne (((hS.same s).same s2).new hp)]; exact upd_same, dps_same (GoD.of (same_new hp)) h2⟩⟩
theorem pl_cat (hS : InD S H) (ha : PL K S te σ H ds) (hb : PL K S tf σ H es) (hl : ds.length + es.length ≤ 10000) : PL K S (tOp rCat te tf) σ H (ds ++ es) := fun H1 s Q q => ha H1 s _ fun v1 H2 s2 h2 => hb H2 (s.trans s2) _ fun v2 H3 s3 h3 => by
  obtain ⟨a, xs, rfl, a1, a2⟩ := h2.go (GoD.of s3)
  obtain ⟨b, ys, rfl, b1, b2⟩ := h3
  have l1 := dps_len a2
  have l2 := dps_len b2
  have hsl := sizeLine_eq
  exact ⟨a, b, xs, ys, rfl, rfl, (offS_some a1).2, (offS_some b1).2, by omega, fun p hp => q _ _ (s2.trans (s3.trans (same_new hp))) ⟨p, xs ++ ys, rfl, by rw [offS_ne ((((hS.same s).same s2).same s3).new hp)]; exact upd_same, dps_same (GoD.of (same_new hp)) (dps_app a2 b2)⟩⟩
theorem rSlL_off (hS : InD S H) {v : V} {lo hi : Option Int} {Q : VK} (hv : LVal K S H v ds) (q : ∀ p H2 xs, Same H H2 → DpAll K (offS S H) xs ds → offS S H2 p = some (.lst (cutV xs lo hi)) → Q (.ref p) H2) : rSlL K v lo hi H Q := by
  obtain ⟨a, xs, rfl, a1, a2⟩ := hv
  exact ⟨a, xs, rfl, SqL.of (offS_some a1).2, fun p hp => q p _ xs (same_new hp) a2 (by rw [offS_ne (hS.new hp)]; exact upd_same)⟩
theorem pl_take (hS : InD S H) (ha : PL K S te σ H ds) {k : Nat} (hk : PN tf σ (k : Nat)) : PL K S (tSl (rSlL K) te tNoPart (tPart tf)) σ H (ds.take k) := fun H1 s Q q => ha H1 s _ fun v1 H2 s2 h2 => hk H2 _ ⟨_, rfl, rSlL_off ((hS.same s).same s2) h2 fun p H3 xs s3 h3 h4 => by
  rw [cut_take] at h4
  exact q _ H3 (s2.trans s3) ⟨p, _, rfl, h4, dps_take k (dps_same (GoD.of s3) h3)⟩⟩
theorem pl_drop (hS : InD S H) (ha : PL K S te σ H ds) {k : Nat} (hk : PN tf σ (k : Nat)) : PL K S (tSl (rSlL K) te (tPart tf) tNoPart) σ H (ds.drop k) := fun H1 s Q q => ha H1 s _ fun v1 H2 s2 h2 => hk H2 _ ⟨_, rfl, rSlL_off ((hS.same s).same s2) h2 fun p H3 xs s3 h3 h4 => by
  rw [cut_drop] at h4
  exact q _ H3 (s2.trans s3) ⟨p, _, rfl, h4, dps_drop k (dps_same (GoD.of s3) h3)⟩⟩
theorem cut_mid (xs : List V) {i j : Nat} (h1 : i ≤ xs.length) (h2 : j ≤ xs.length) : cutV xs (some (i : Int)) (some (j : Int)) = (xs.drop i).take (j - i) := by
  have a : HT.sIx xs.length 0 (some (i : Int)) = i := by
    unfold HT.sIx
    simp
    rw [if_neg (by omega)]
    omega
  have b : HT.sIx xs.length xs.length (some (j : Int)) = j := by
    unfold HT.sIx
    simp
    rw [if_neg (by omega)]
    omega
  unfold cutV
  rw [a, b]
theorem pl_mid (hS : InD S H) (ha : PL K S te σ H ds) {i j : Nat} (hi : PN tf σ (i : Nat)) (hj : PN tg σ (j : Nat)) (h1 : i ≤ ds.length) (h2 : j ≤ ds.length) : PL K S (tSl (rSlL K) te (tPart tf) (tPart tg)) σ H ((ds.drop i).take (j - i)) := fun H1 s Q q => ha H1 s _ fun v1 H2 s2 h2' => hi H2 _ ⟨_, rfl, hj H2 _ ⟨_, rfl, rSlL_off ((hS.same s).same s2) h2' fun p H3 xs s3 h3 h4 => by
  have hl := dps_len h3
  rw [cut_mid xs (by omega) (by omega)] at h4
  exact q _ H3 (s2.trans s3) ⟨p, _, rfl, h4, dps_take _ (dps_drop i (dps_same (GoD.of s3) h3))⟩⟩⟩
theorem pv_ixL (ha : PL K S te σ H ds) {k : Nat} (hk : PN tf σ (k : Nat)) (hd : ds[k]? = some d) : PV K S (tOp (rIxL K) te tf) σ H d := fun H1 s Q q => ha H1 s _ fun v1 H2 s2 h2 => by
  obtain ⟨a, xs, rfl, a1, a2⟩ := h2
  have hl := dps_len a2
  have hkl := (List.getElem?_eq_some_iff.mp hd).1
  have hx : xs[k]? = some (xs[k]'(by omega)) := List.getElem?_eq_getElem (by omega)
  obtain ⟨d', e1, e2⟩ := dps_at a2 hx
  rw [hd] at e1
  obtain rfl := Option.some.inj e1
  exact hk H2 _ ⟨a, xs, _, _, rfl, rfl, SqL.of (offS_some a1).2, atI_nat hx, q _ H2 s2 e2⟩
theorem pv_tupL (hS : InD S H) (ha : PL K S te σ H ds) {r : List V → Hp → VK → Prop} (hr : r = rTupQ K) : PV K S (tCB r (tCons te tNil)) σ H (.tuple ds) := fun H1 s Q q => ha H1 s _ fun v1 H2 s2 h2 => by
  subst hr
  obtain ⟨a, xs, rfl, a1, a2⟩ := h2
  exact ⟨a, xs, rfl, .inl ⟨SqL.of (offS_some a1).2, fun l hl => q _ _ (s2.trans (same_new hl)) (.tup (sqt_offS upd_same (((hS.same s).same s2).new hl)) (dps_same (GoD.of (same_new hl)) a2))⟩⟩
theorem pn_lenL {v : V} {i : Nat} {r : List V → Hp → VK → Prop} {Q : VK} (hr : r = rLenQ K) (h : σ[i]? = some (some v)) (hd : LVal K S H v ds) (q : Q (.int (ds.length : Nat)) H) : tCB r (tCons (tVar i) tNil) σ H Q := by
  subst hr
  obtain ⟨a, xs, rfl, a1, a2⟩ := hd
  refine ⟨_, h, a, xs, rfl, .inl (SqL.of (offS_some a1).2), ?_⟩
  rw [dps_len a2]
  exact q
end
/-! ### shapes as data -/
theorem dtRow_kids : ∀ ds : List PyData, (dtRow ds).kids = ds.map dtOf
  | [] => by
    unfold dtRow
    rfl
  | d :: ds => by
    unfold dtRow
    show dtOf d :: (dtRow ds).kids = _
    rw [dtRow_kids ds]
    rfl
theorem dtRow_len (ds : List PyData) : (dtRow ds).len = ds.length := by
  rw [← kids_len, dtRow_kids, List.length_map]
theorem dtRow_isx : ∀ ds : List PyData, (dtRow ds).isx = false
  | [] => by unfold dtRow; rfl
  | _ :: _ => by unfold dtRow; rfl
theorem dt_tup (ds : List PyData) : dtOf (.tuple ds) = dtRow ds := by unfold dtOf; rfl
theorem good_tup {ds : List PyData} (h : ds.length ≤ 6) (hk : ∀ d ∈ ds, (dtOf d).good 1 = true) : (dtOf (.tuple ds)).good 1 = true := by
  rw [dt_tup]
  unfold Dt.good Dt.here
  rw [dtRow_isx, dtRow_len, decide_eq_true h, kids_good, dtRow_kids]
  have e : (ds.map dtOf).all (good 1) = true := List.all_eq_true.mpr fun t ht => by
    obtain ⟨d, hd, rfl⟩ := List.mem_map.mp ht
    exact hk d hd
  rw [e]
  by_cases h0 : 0 < ds.length
  · rw [decide_eq_true h0, decide_eq_false (show ¬ ds.length < 1 by omega)]
    rfl
  · rw [decide_eq_false h0]
    rfl
def nd (d : PyData) : Nat := (dtOf d).nodes
def nds (ds : List PyData) : Nat := (ds.map nd).sum
theorem nds_app (a b : List PyData) : nds (a ++ b) = nds a + nds b := by
  unfold nds
  rw [List.map_append, List.sum_append]
theorem nd_row : ∀ ds : List PyData, (dtRow ds).nodes = nds ds + 1
  | [] => by unfold dtRow; rfl
  | d :: ds => by
    unfold dtRow
    show (dtOf d).nodes + (dtRow ds).nodes = _
    rw [nd_row ds]
    unfold nds nd
    rw [List.map_cons, List.sum_cons]
    omega
theorem nd_tup (ds : List PyData) : nd (.tuple ds) = nds ds + 1 := by
  unfold nd
  rw [dt_tup, nd_row]
theorem ht_row {h : Nat} : ∀ ds : List PyData, (∀ d ∈ ds, (dtOf d).ht ≤ h) → (dtRow ds).ht ≤ h + 1
  | [], _ => by unfold dtRow; exact Nat.zero_le _
  | d :: ds, hd => by
    unfold dtRow
    show max ((dtOf d).ht + 1) (dtRow ds).ht ≤ h + 1
    have h1 := hd d (List.mem_cons_self ..)
    have h2 := ht_row ds fun x hx => hd x (List.mem_cons_of_mem _ hx)
    omega
theorem size_nodes : ∀ t : Dt, t.size + 1 ≤ 2 * t.nodes
  | .x => Nat.le_refl 2
  | .o => Nat.le_refl 2
  | .c k r => by
    have h1 := size_nodes k
    have h2 := size_nodes r
    show k.size + r.size + 1 + 1 ≤ 2 * (k.nodes + r.nodes)
    omega
/-- the parts that a form is made of -/
structure Fs (s : Nat) (ds : List PyData) : Prop where
  ne : ds ≠ []
  good : ∀ d ∈ ds, (dtOf d).good 1 = true
  ht : ∀ d ∈ ds, (dtOf d).ht + s + ds.length ≤ 12
  nd : nds ds + s + ds.length ≤ 21
  sh : ∀ d ∈ ds, Shp (13 - (s + ds.length)) d
theorem Fs.pos {s : Nat} {ds : List PyData} (h : Fs s ds) : 1 ≤ ds.length := by
  have := h.ne
  cases ds with
  | nil => exact absurd rfl this
  | cons _ _ => exact Nat.le_add_left 1 _
theorem Fs.le {s : Nat} {ds : List PyData} (h : Fs s ds) : s + ds.length ≤ 12 := by
  cases ds with
  | nil => exact absurd rfl h.ne
  | cons d ds => have := h.ht d (List.mem_cons_self ..); omega
def leafD : PyData := .tuple []
theorem fs_start {n : Nat} (h1 : 1 ≤ n) (h2 : n ≤ 9) : Fs 3 (List.replicate n leafD) := by
  have e : dtOf leafD = .o := by
    unfold leafD
    rw [dt_tup]
    unfold dtRow
    rfl
  refine ⟨fun z => ?_, fun d hd => ?_, fun d hd => ?_, ?_, fun d hd => ?_⟩
  · have := congrArg List.length z
    rw [List.length_replicate] at this
    rw [List.length_nil] at this
    omega
  · rw [(List.mem_replicate.mp hd).2, e]
    rfl
  · rw [(List.mem_replicate.mp hd).2, e, List.length_replicate]
    show 0 + 3 + n ≤ 12
    omega
  · have e2 : K65.nd leafD = 1 := by
      unfold K65.nd
      rw [e]
      rfl
    have e3 : ∀ m : Nat, nds (List.replicate m leafD) = m := by
      intro m
      induction m with
      | zero => rfl
      | succ m ih =>
        rw [List.replicate_succ]
        show K65.nd leafD + nds (List.replicate m leafD) = m + 1
        rw [ih, e2]
        omega
    rw [e3, List.length_replicate]
    omega
  · rw [(List.mem_replicate.mp hd).2]
    have : Shp (0 + 1) leafD := shp_tup fun e he => nomatch he
    exact this.mono (by rw [List.length_replicate]; omega)
theorem split_at {ds : List PyData} {r : Nat} {d : PyData} (h : ds[r]? = some d) : ds = ds.take r ++ [d] ++ ds.drop (r + 1) := by
  obtain ⟨h1, h2⟩ := List.getElem?_eq_some_iff.mp h
  conv => lhs; rw [← List.take_append_drop r ds, List.drop_eq_getElem_cons h1, h2]
  simp
/-- a run of them becomes one -/
theorem fs_fold {s s' : Nat} {ds : List PyData} {r w : Nat} (h : Fs s ds) (h1 : 1 ≤ w) (h6 : w ≤ 6) (hr : r + w ≤ ds.length) (hs : s' + 1 + 1 ≤ s + w) (hs' : s' ≤ s) : Fs s' (ds.take r ++ [.tuple ((ds.drop r).take w)] ++ ds.drop (r + w)) := by
  have hlen : (ds.take r ++ [PyData.tuple ((ds.drop r).take w)] ++ ds.drop (r + w)).length = ds.length + 1 - w := by
    rw [List.length_append, List.length_append, List.length_take, List.length_drop, List.length_singleton]
    omega
  have hw : ((ds.drop r).take w).length = w := by
    rw [List.length_take, List.length_drop]
    omega
  have hm : ∀ d ∈ (ds.drop r).take w, d ∈ ds := fun d hd => List.mem_of_mem_drop (List.mem_of_mem_take hd)
  have key : ∀ {p : PyData → Prop}, (∀ d ∈ ds, p d) → p (.tuple ((ds.drop r).take w)) → ∀ d ∈ ds.take r ++ [PyData.tuple ((ds.drop r).take w)] ++ ds.drop (r + w), p d := fun ha hb d hd => by
    rcases List.mem_append.mp hd with hd | hd
    · rcases List.mem_append.mp hd with hd | hd
      · exact ha d (List.mem_of_mem_take hd)
      · obtain rfl := List.mem_singleton.mp hd
        exact hb
    · exact ha d (List.mem_of_mem_drop hd)
  refine ⟨fun z => ?_, key h.good (good_tup (by omega) fun d hd => h.good d (hm d hd)), ?_, ?_, ?_⟩
  · rw [z] at hlen
    have : ds.length + 1 - w = 0 := hlen.symm
    omega
  · rw [hlen]
    refine key (fun d hd => ?_) ?_
    · have := h.ht d hd
      omega
    · rw [dt_tup]
      have := ht_row (h := 12 - s - ds.length) ((ds.drop r).take w) fun d hd => by
        have := h.ht d (hm d hd)
        omega
      have := h.le
      omega
  · rw [nds_app, nds_app, hlen]
    have e : nds [PyData.tuple ((ds.drop r).take w)] = nds ((ds.drop r).take w) + 1 := by
      show nd _ + 0 = _
      rw [nd_tup]
    have e2 : nds ds = nds (ds.take r) + (nds ((ds.drop r).take w) + nds (ds.drop (r + w))) := by
      rw [← nds_app, ← nds_app]
      congr 1
      have : ds.drop (r + w) = (ds.drop r).drop w := by rw [List.drop_drop]
      rw [this, List.take_append_drop, List.take_append_drop]
    have := h.nd
    rw [e]
    omega
  · rw [hlen]
    have := h.le
    refine key (fun d hd => (h.sh d hd).mono (by omega)) ?_
    have q : Shp (13 - (s + ds.length) + 1) (.tuple ((ds.drop r).take w)) := shp_tup fun e he => h.sh e (hm e he)
    exact q.mono (by omega)
/-- what a form is -/
structure FormOK (d : PyData) : Prop where
  good : (dtOf d).good 1 = true
  nd : nd d ≤ 20
  ht : (dtOf d).ht ≤ 11
  sh : Shp 13 d
theorem fs_form {s : Nat} {ds : List PyData} {d : PyData} (h : Fs s ds) (hd : d ∈ ds) : FormOK d := by
  have hp := h.pos
  refine ⟨h.good d hd, ?_, ?_, (h.sh d hd).mono (by omega)⟩
  · have h1 := h.nd
    have : K65.nd d ≤ nds ds := by
      obtain ⟨r, hr⟩ := List.mem_iff_getElem?.mp hd
      have := congrArg nds (split_at hr)
      rw [nds_app, nds_app] at this
      have e : nds [d] = K65.nd d := Nat.add_zero _
      omega
    omega
  · have := h.ht d hd
    omega
theorem FormOK.size {d : PyData} (h : FormOK d) : (dtOf d).size ≤ 100000 := by
  have := size_nodes (dtOf d)
  have := h.nd
  unfold K65.nd at this
  omega
end K65
set_option Elab.async false
set_option linter.all false
set_option maxRecDepth 100000
set_option maxHeartbeats 4000000
namespace K65
open PySem PySem.Spec PyProof.Rows L2 Dt
/-! ### is_way, is_event -/
def wayOf (T : Dt) (q r : PyData) : Bool := match numOf q with
  | some i => if 0 ≤ i then (match (lv T)[i.toNat]? with | some p => fitOf (p.length + 1) r | none => false) else false
  | none => false
theorem wayOf_no {T : Dt} {q r : PyData} (h : belowB (T.lf : Nat) (numOf q) = false) : wayOf T q r = false := by
  unfold wayOf
  cases e : numOf q with
  | none => rfl
  | some i =>
    rw [e] at h
    have h' : (decide (0 ≤ i) && decide (i < (T.lf : Nat))) = false := h
    by_cases c : 0 ≤ i
    · show (if 0 ≤ i then (match (lv T)[i.toNat]? with | some p => fitOf (p.length + 1) r | none => false) else false) = false
      rw [if_pos c]
      rw [decide_eq_true c, Bool.true_and] at h'
      have h2 := of_decide_eq_false h'
      have : (lv T)[i.toNat]? = none := List.getElem?_eq_none (by show T.lf ≤ i.toNat; omega)
      rw [this]
    · show (if 0 ≤ i then (match (lv T)[i.toNat]? with | some p => fitOf (p.length + 1) r | none => false) else false) = false
      rw [if_neg c]
theorem wayOf_yes {T : Dt} {q r : PyData} {i : Nat} {p : Ad} (h : numOf q = some (i : Nat)) (hp : (lv T)[i]? = some p) : wayOf T q r = fitOf (p.length + 1) r := by
  unfold wayOf
  rw [h]
  show (if (0 : Int) ≤ (i : Nat) then (match (lv T)[((i : Nat) : Int).toNat]? with | some p => fitOf (p.length + 1) r | none => false) else false) = _
  rw [if_pos (by omega), Int.toNat_natCast, hp]
def spWay (K : PySem.W.Frag) (C : Addr) : Sp := fun vs H Q _ => ∃ (a : Addr) (x y : V) (T : Dt) (q r : PyData), vs = [.ref a, x, y] ∧ Tree K H C a T ∧ Dp K H x q ∧ Dp K H y r ∧ (∀ ds, r = .tuple ds → ds.length ≤ 1000000) ∧ ∀ H', Same H H' → Q (.bl (wayOf T q r)) H'
/-- data that is compared: no dict, not deep -/
def eventOf (T : Dt) (d : PyData) : Bool := match d with
  | .tuple [w] => PyData.eqv w (.str "depart")
  | .tuple [w, n, q, r] => PyData.eqv w (.str "push") && (belowB packB (numOf n) && wayOf T q r)
  | _ => false
def spEvent (K : PySem.W.Frag) (C : Addr) : Sp := fun vs H Q _ => ∃ (a : Addr) (x : V) (T : Dt) (d : PyData), vs = [.ref a, x] ∧ Tree K H C a T ∧ Dp K H x d ∧ (∀ ds, d = .tuple ds → ∀ e ∈ ds, SeqAt.shaped e = true ∧ ∀ es, e = .tuple es → es.length ≤ 1000000) ∧ ∀ H', Same H H' → Q (.bl (eventOf T d)) H'
section
variable {P : Program} {w : World} {K : PySem.W.Frag} {mg : Str → Option Value} {base : Heap} {C U fG : Addr}
theorem ok_way (D : DefAt K mg "is_way" s_is_way ["tree", "queue", "ranks"]) (T : Txt K mg) (TC : TCl K mg C fG) (GB : CalX P w K mg base CX0 3 "is_below" ["thing", "bound"] (spBelow K)) (GF : CalX P w K mg base CX0 3 "fit_path" ["tree", "queue", "thing"] (spFit K C)) : CalX P w K mg base CX0 4 "is_way" ["tree", "queue", "ranks"] (spWay K C) := by
  refine D.ok sc_is_way (fun vs H Q E h => ?_) (fun f cdv A outer s H vs Q E hr h => ?_)
  · obtain ⟨a, x, y, t, q, r, rfl, _⟩ := h
    rfl
  obtain ⟨a, x, y, t, qd, r, rfl, hTr, hx, hy, hn, q⟩ := h
  obtain ⟨dx, fv, L, S, hT, hF, hV, h1⟩ := id hTr
  refine ⟨_, pss_one (ps_ret (pe_and (pe_c0 GB hr (by decide) rfl (pa_cons (pv 1) (pa_cons (pe_callB call_len_seq (by rfl) T.len PySem.boot_len (pa_cons (pe_fld (pv 0) rfl) pa_nil)) pa_nil))) (pe_one (pe_c0 GF hr (by decide) rfl (pa_cons (pv 0) (pa_cons (pv 1) (pa_cons (pv 2) pa_nil))))))), ?_⟩
  refine ⟨_, rfl, _, rfl, a, C, dx, _, _, rfl, hT.ob, TC.cl, TC.n8, stF_8 _ _, L 8, _, rfl, .inl (SqL.of (hT.ls 8 (by decide))), ?_⟩
  rw [hF.lenL]
  refine ⟨x, numOf qd, _, rfl, num_dp hx, _, rfl, ?_⟩
  cases hb : belowB (t.lf : Nat) (numOf qd) with
  | false =>
    refine iteF ?_
    have := q H (fun _ _ z => z)
    rw [wayOf_no hb] at this
    exact this
  | true =>
    refine iteT ?_
    obtain ⟨i, p, hp, ho⟩ := below_lv hb
    have hxi : x = .int (i : Nat) := by
      have := num_dp hx
      rw [ho] at this
      exact this
    subst hxi
    refine ⟨_, rfl, _, rfl, _, rfl, a, i, y, t, p, r, rfl, hTr, hp, hy, hn, fun H2 s2 => ?_⟩
    have := q H2 s2
    rw [wayOf_yes ho hp] at this
    exact this
end
end K65
set_option Elab.async false
set_option linter.all false
set_option maxRecDepth 100000
set_option maxHeartbeats 4000000
namespace K65
open PySem PySem.Spec PyProof.Rows L2 Dt
theorem shaped_str (z : Str) (h : PyData.strOk z = true) : SeqAt.shaped (.str z) = true := by
  unfold SeqAt.shaped PyData.canLay0 PyData.depth
  rw [h]
  rfl
theorem event_len {T : Dt} {ds : List PyData} (h1 : ds.length ≠ 1) (h4 : ds.length ≠ 4) : eventOf T (.tuple ds) = false := by
  match ds, h1, h4 with
  | [], _, _ => rfl
  | [d1], h1, _ => exact absurd rfl h1
  | [d1, d2], _, _ => rfl
  | [d1, d2, d3], _, _ => rfl
  | [d1, d2, d3, d4], _, h4 => exact absurd rfl h4
  | d1 :: d2 :: d3 :: d4 :: d5 :: l, _, _ => rfl
section
variable {P : Program} {w : World} {K : PySem.W.Frag} {mg : Str → Option Value} {base : Heap} {C U fG : Addr}
theorem ok_event (D : DefAt K mg "is_event" s_is_event ["tree", "thing"]) (T : Txt K mg) (mp : ∃ t, mg "PACKET_BOUND" = some (.int packB t)) (GB : CalX P w K mg base CX0 3 "is_below" ["thing", "bound"] (spBelow K)) (GW : CalX P w K mg base CX0 4 "is_way" ["tree", "queue", "ranks"] (spWay K C)) : CalX P w K mg base CX0 5 "is_event" ["tree", "thing"] (spEvent K C) := by
  obtain ⟨tk, mp⟩ := mp
  refine D.ok sc_is_event (fun vs H Q E h => ?_) (fun f cdv A outer s H vs Q E hr h => ?_)
  · obtain ⟨a, x, t, d, rfl, _⟩ := h
    rfl
  obtain ⟨a, x, t, d, rfl, hTr, hx, hsh, q⟩ := h
  have hu : A.units + 64 < cLine := by have := hr.un; have e : (A.deeper (envOfC "is_event" (defScope s_is_event) s.heap.objs.size f cdv)).units = A.units + 3 := rfl; omega
  refine ⟨_, pss_cons (ps_if (pt_not (pt_val (pe_callB call_isi (by rfl) T.isinstance boot_isinstance (pa_cons (pv 1) (pa_cons (pe_bltn (v := .ty "tuple") (by rfl) T.tuple PyProof.Rows.boot_tuple rfl) pa_nil))))) (pss_one (ps_ret pe_bl)) pss_nil)
    (pss_cons (ps_if (pt_cmpR op_eq (pe_callB call_len_seq (by rfl) T.len PySem.boot_len (pa_cons (pv 1) pa_nil)) pe_int (nomark _)) (pss_one (ps_ret (pe_cmpR (op_eqD hr.units) (pe_ix ix_tup (pv 1) pe_int (fun _ _ => rfl)) pe_str (nomark _)))) pss_nil)
    (pss_cons (ps_if (PW.pt (pw_or (pt_cmpR op_ne (pe_callB call_len_seq (by rfl) T.len PySem.boot_len (pa_cons (pv 1) pa_nil)) pe_int (nomark _)) (pw_or1 (pt_cmpR (op_neD hr.units) (pe_ix ix_tup (pv 1) pe_int (fun _ _ => rfl)) pe_str (nomark _))))) (pss_one (ps_ret pe_bl)) pss_nil)
    (pss_one (ps_ret (pe_and (pe_c0 GB hr (by decide) rfl (pa_cons (pe_ix ix_tup (pv 1) pe_int (fun _ _ => rfl)) (pa_cons (pe_glob (v := .int packB) (by rfl) mp ⟨_, rfl⟩) pa_nil)))
      (pe_one (pe_c0 GW hr (by decide) rfl (pa_cons (pv 0) (pa_cons (pe_ix ix_tup (pv 1) pe_int (fun _ _ => rfl)) (pa_cons (pe_ix ix_tup (pv 1) pe_int (fun _ _ => rfl)) pa_nil)))))))))), ?_⟩
  have kx := kind_dp hx
  have sH : Same H H := fun _ _ z => z
  have qH := q H sH
  refine isi_read rfl kx.1 (kit_tup kx.2) ⟨_, rfl, ?_⟩
  by_cases ht : ∃ ds, d = .tuple ds
  · obtain ⟨ds, rfl⟩ := ht
    have hsh' := hsh ds rfl
    cases hx with
    | @tup b xs _ hs ha =>
    have hl := dps_len ha
    refine iteF ?_
    refine ⟨_, rfl, b, xs, rfl, .inr hs, rfl, _, rfl, ?_⟩
    rw [hl]
    by_cases c1 : ds.length = 1
    · have e1 : (decide (V.int (ds.length : Nat) = V.int 1)) = true := decide_eq_true (by rw [c1]; rfl)
      rw [e1]
      refine iteT ?_
      match ds, c1, ha, hsh', qH with
      | [d1], _, ha, hsh', qH =>
        cases ha with
        | @cons v1 vr _ _ g1 gr =>
        refine ⟨_, rfl, b, (v1 :: vr), 0, v1, rfl, rfl, hs, (show atI (v1 :: vr) ((0 : Nat) : Int) = some v1 from atI_nat rfl), d1, .str "depart", g1, .str _, (hsh' d1 (by simp)).1, shaped_str _ (by decide +kernel), ?_⟩
        exact qH
    · have e1 : (decide (V.int (ds.length : Nat) = V.int 1)) = false := decide_eq_false fun z => c1 (by injection z with z; omega)
      rw [e1]
      refine iteF ?_
      refine ⟨_, rfl, b, xs, rfl, .inr hs, rfl, _, rfl, ?_⟩
      rw [hl]
      by_cases c4 : ds.length = 4
      · have e4 : (decide (V.int (ds.length : Nat) = V.int 4)) = true := decide_eq_true (by rw [c4]; rfl)
        rw [e4]
        refine iteF ?_
        match ds, c4, ha, hsh', q with
        | [d1, d2, d3, d4], _, ha, hsh', q =>
          cases ha with
          | @cons v1 vr1 _ _ g1 ha =>
          cases ha with
          | @cons v2 vr2 _ _ g2 ha =>
          cases ha with
          | @cons v3 vr3 _ _ g3 ha =>
          cases ha with
          | @cons v4 vr4 _ _ g4 ha =>
          refine ⟨_, rfl, b, (v1 :: v2 :: v3 :: v4 :: vr4), 0, v1, rfl, rfl, hs, (show atI (v1 :: v2 :: v3 :: v4 :: vr4) ((0 : Nat) : Int) = some v1 from atI_nat rfl), d1, .str "push", g1, .str _, (hsh' d1 (by simp)).1, shaped_str _ (by decide +kernel), _, rfl, ?_⟩
          have eo : eventOf t (.tuple [d1, d2, d3, d4]) = (PyData.eqv d1 (.str "push") && (belowB packB (numOf d2) && wayOf t d3 d4)) := rfl
          cases e5 : PyData.eqv d1 (.str "push") with
          | false =>
            refine iteT ?_
            have := q H sH
            rw [eo, e5] at this
            exact this
          | true =>
            refine iteF ?_
            refine ⟨_, rfl, b, (v1 :: v2 :: v3 :: v4 :: vr4), 1, v2, rfl, rfl, hs, (show atI (v1 :: v2 :: v3 :: v4 :: vr4) ((1 : Nat) : Int) = some v2 from atI_nat rfl), v2, numOf d2, packB, rfl, num_dp g2, _, rfl, ?_⟩
            cases e6 : belowB packB (numOf d2) with
            | false =>
              refine iteF ?_
              have := q H sH
              rw [eo, e5, e6] at this
              exact this
            | true =>
              refine iteT ?_
              refine ⟨_, rfl, _, rfl, b, (v1 :: v2 :: v3 :: v4 :: vr4), 2, v3, rfl, rfl, hs, (show atI (v1 :: v2 :: v3 :: v4 :: vr4) ((2 : Nat) : Int) = some v3 from atI_nat rfl), _, rfl, b, (v1 :: v2 :: v3 :: v4 :: vr4), 3, v4, rfl, rfl, hs, (show atI (v1 :: v2 :: v3 :: v4 :: vr4) ((3 : Nat) : Int) = some v4 from atI_nat rfl), a, v3, v4, t, d3, d4, rfl, hTr, g3, g4, (hsh' d4 (by simp)).2, fun H2 s2 => ?_⟩
              have := q H2 s2
              rw [eo, e5, e6] at this
              exact this
      · have e4 : (decide (V.int (ds.length : Nat) = V.int 4)) = false := decide_eq_false fun z => c4 (by injection z with z; omega)
        rw [e4]
        refine iteT (iteT ?_)
        rw [event_len c1 c4] at qH
        exact qH
  · have e : (kindOf d == "tuple") = false := kind_tup_not fun ds z => ht ⟨ds, z⟩
    rw [e]
    refine iteT ?_
    have e2 : eventOf t d = false := by
      cases d with
      | tuple ds => exact absurd ⟨ds, rfl⟩ ht
      | _ => rfl
    rw [e2] at qH
    exact qH
end
end K65
set_option Elab.async false
set_option linter.all false
set_option maxRecDepth 100000
set_option maxHeartbeats 4000000
namespace K65
open PySem PySem.Spec PyProof.Rows L2 Dt
/-! ### are_events, events_fit -/
/-- the number that an event pushes -/
def pushNo : PyData → Option Int
  | .tuple [w, n, _, _] => if PyData.eqv w (.str "push") = true then numOf n else none
  | _ => none
def evsGo (T : Dt) (seen : List Int) : List PyData → Bool
  | [] => true
  | e :: r => eventOf T e && (match pushNo e with | some n => !decide (n ∈ seen) && evsGo T (n :: seen) r | none => evsGo T seen r)
def evsOf (T : Dt) (d : PyData) : Bool := match d with | .tuple ds => evsGo T [] ds | _ => false
/-- the parts of an event can be compared -/
def EvOk (d : PyData) : Prop := ∀ ds, d = .tuple ds → ∀ e ∈ ds, SeqAt.shaped e = true ∧ ∀ es, e = .tuple es → es.length ≤ 1000000
def spEvents (K : PySem.W.Frag) (C : Addr) : Sp := fun vs H Q _ => ∃ (a : Addr) (x : V) (T : Dt) (d : PyData), vs = [.ref a, x] ∧ Tree K H C a T ∧ Dp K H x d ∧ (∀ ds, d = .tuple ds → ds.length ≤ 1000 ∧ ∀ e ∈ ds, EvOk e) ∧ ∀ H', Same H H' → Q (.bl (evsOf T d)) H'
theorem event_no {T : Dt} {e : PyData} (h : eventOf T e = true) : (∃ w, e = .tuple [w] ∧ PyData.eqv w (.str "depart") = true) ∨ ∃ w n q r i, e = .tuple [w, n, q, r] ∧ PyData.eqv w (.str "push") = true ∧ numOf n = some i := by
  cases e with
  | tuple ds =>
    match ds, h with
    | [], h => exact nomatch h
    | [w], h => exact .inl ⟨w, rfl, h⟩
    | [_, _], h => exact nomatch h
    | [_, _, _], h => exact nomatch h
    | [w, n, q, r], h =>
      have h' : (PyData.eqv w (.str "push") && (belowB packB (numOf n) && wayOf T q r)) = true := h
      simp only [Bool.and_eq_true] at h'
      cases e : numOf n with
      | none =>
        rw [e] at h'
        exact nomatch h'.2.1
      | some i => exact .inr ⟨w, n, q, r, i, rfl, h'.1, e⟩
    | _ :: _ :: _ :: _ :: _ :: _, h => exact nomatch h
  | _ => exact nomatch h
theorem eqv_depart {w : PyData} (h : PyData.eqv w (.str "depart") = true) : PyData.eqv w (.str "push") = false := by
  cases w with
  | str z =>
    unfold PyData.eqv at h ⊢
    have hz : z = "depart" := by simpa using h
    rw [hz]
    decide +kernel
  | none => simp [PyData.eqv] at h
  | bool _ => simp [PyData.eqv] at h
  | int _ => simp [PyData.eqv] at h
  | list _ => simp [PyData.eqv] at h
  | tuple _ => simp [PyData.eqv] at h
  | dict _ => simp [PyData.eqv] at h
section
variable {P : Program} {w : World} {K : PySem.W.Frag} {mg : Str → Option Value} {base : Heap} {C U fG : Addr}
theorem ok_events (D : DefAt K mg "are_events" s_are_events ["tree", "thing"]) (T : Txt K mg) (GE : CalX P w K mg base CX0 5 "is_event" ["tree", "thing"] (spEvent K C)) : CalX P w K mg base CX0 6 "are_events" ["tree", "thing"] (spEvents K C) := by
  refine D.ok sc_are_events (fun vs H Q E h => ?_) (fun f cdv A outer s H vs Q E hr h => ?_)
  · obtain ⟨a, x, t, d, rfl, _⟩ := h
    rfl
  obtain ⟨a, x, t, d, rfl, hTr, hx, hok, q⟩ := h
  have hu := hu_of hr
  refine ⟨_, pss_cons (ps_if (pt_not (pt_val (pe_callB call_isi (by rfl) T.isinstance boot_isinstance (pa_cons (pv 1) (pa_cons (pe_bltn (v := .ty "tuple") (by rfl) T.tuple PyProof.Rows.boot_tuple rfl) pa_nil))))) (pss_one (ps_ret pe_bl)) pss_nil)
    (pss_cons (ps_set (i := 2) sc_are_events.nd rfl (.inl rfl) pe_dnewK)
    (pss_cons (ps_for PassesOwn.never rfl (pi_tup (pv 1)) (pg_name (i := 3) sc_are_events.nd rfl (Or.inl rfl))
      (pss_cons (ps_if (pt_not (pt_val (pe_c0 GE hr (by decide) rfl (pa_cons (pv 0) (pa_cons (pv 3) pa_nil))))) (pss_one (ps_ret pe_bl)) pss_nil)
      (pss_one (ps_if (pt_cmpR (op_eqD hr.units) (pe_ix ix_tup (pv 3) pe_int (fun _ _ => rfl)) pe_str (nomark _))
        (pss_cons (ps_if (pt_cmp (pc_din hu (pe_ix ix_tup (pv 3) pe_int (fun _ _ => rfl)) (pv 2))) (pss_one (ps_ret pe_bl)) pss_nil)
        (pss_one (ps_dput hu (pv 2) (pe_ix ix_tup (pv 3) pe_int (fun _ _ => rfl)) pe_bl rfl))) pss_nil))))
    (pss_one (ps_ret pe_bl)))), ?_⟩
  have kx := kind_dp hx
  refine isi_read rfl kx.1 (kit_tup kx.2) ⟨_, rfl, ?_⟩
  by_cases ht : ∃ ds, d = .tuple ds
  · obtain ⟨ds, rfl⟩ := ht
    obtain ⟨hn, hev⟩ := hok ds rfl
    cases hx with
    | @tup b xs _ hs ha =>
    have hl := dps_len ha
    refine iteF ?_
    intro pd hpd
    refine ⟨_, rfl, b, rfl, ⟨_, same_sqt (same_new hpd) hs⟩, for_tup (K := K) (a := b) (xs := xs) (fun i σ H' => ∃ (kvs : List (Key × V)) (seen : List Int) (o3 : Option V), σ = [some (.ref a), some (.ref b), some (.ref pd), o3] ∧ Same H H' ∧ H' pd = some (.dK kvs) ∧ kvs.length ≤ i ∧
      (∀ n : Int, (valV kvs (Sum.inl n : Key)).isSome = decide (n ∈ seen)) ∧ evsGo t [] ds = evsGo t seen (ds.drop i)) ⟨[], [], none, rfl, same_new hpd, upd_same, Nat.le_refl _, (fun n => by simp [valV_nil]), by rw [List.drop_zero]⟩ (fun i σ H' _ ⟨_, _, _, _, sm, _⟩ => same_sqt sm hs) ?_ ?_⟩
    · rintro i y σ H' hi ⟨kvs, seen, o3, rfl, sm, hD, hkl, hseen, hgo⟩
      obtain ⟨e, he, hy⟩ := dps_at ha hi
      have hil := (List.getElem?_eq_some_iff.mp he).1
      have hem := List.mem_of_getElem? he
      have ed : ds.drop i = e :: ds.drop (i + 1) := by
        rw [List.drop_eq_getElem_cons hil]
        congr 1
        rw [List.getElem?_eq_getElem hil] at he
        exact Option.some.inj he
      have eg : evsGo t seen (e :: ds.drop (i + 1)) = (eventOf t e && (match pushNo e with | some n => !decide (n ∈ seen) && evsGo t (n :: seen) (ds.drop (i + 1)) | none => evsGo t seen (ds.drop (i + 1)))) := by rw [evsGo]
      rw [ed, eg] at hgo
      refine ⟨_, rfl, _, rfl, a, y, t, e, rfl, hTr.same sm, dp_same sm hy, hev e hem, fun H2 s2 => ⟨_, rfl, ?_⟩⟩
      have sm2 := sm.trans s2
      have hD2 := s2 _ _ hD
      cases hee : eventOf t e with
      | false =>
        refine iteT ?_
        have := q H2 sm2
        rw [show evsOf t (.tuple ds) = false from hgo.trans (by rw [hee]; rfl)] at this
        exact this
      | true =>
        refine iteF ?_
        rw [hee, Bool.true_and] at hgo
        have hy2 := dp_same sm2 hy
        rcases event_no hee with ⟨w1, rfl, hw⟩ | ⟨w1, n1, q1, r1, n, rfl, hw, hnn⟩
        · cases hy2 with
          | @tup c ys _ hsc hac =>
          cases hac with
          | @cons v1 vr _ _ g1 gr =>
          refine ⟨_, rfl, c, (v1 :: vr), 0, v1, rfl, rfl, hsc, (show atI (v1 :: vr) ((0 : Nat) : Int) = some v1 from atI_nat rfl), w1, .str "push", g1, .str _, (hev _ hem _ rfl w1 (by simp)).1, shaped_str _ (by decide +kernel), _, rfl, ?_⟩
          rw [eqv_depart hw]
          refine iteF ?_
          exact ⟨kvs, seen, _, rfl, sm2, hD2, by omega, hseen, hgo⟩
        · cases hy2 with
          | @tup c ys _ hsc hac =>
          cases hac with
          | @cons v1 vr _ _ g1 hac =>
          cases hac with
          | @cons v2 vr2 _ _ g2 gr =>
          have hv2 : v2 = .int n := by
            have := num_dp g2
            rw [hnn] at this
            exact this
          subst hv2
          have epn : pushNo (.tuple [w1, n1, q1, r1]) = some n := by
            show (if PyData.eqv w1 (.str "push") = true then numOf n1 else none) = some n
            rw [if_pos hw, hnn]
          rw [epn] at hgo
          have hgo' : evsGo t [] ds = (!decide (n ∈ seen) && evsGo t (n :: seen) (ds.drop (i + 1))) := hgo
          refine ⟨_, rfl, c, (v1 :: .int n :: vr2), 0, v1, rfl, rfl, hsc, (show atI (v1 :: V.int n :: vr2) ((0 : Nat) : Int) = some v1 from atI_nat rfl), w1, .str "push", g1, .str _, (hev _ hem _ rfl w1 (by simp)).1, shaped_str _ (by decide +kernel), _, rfl, ?_⟩
          rw [hw]
          refine iteT ?_
          refine ⟨_, rfl, c, (v1 :: .int n :: vr2), 1, .int n, rfl, rfl, hsc, (show atI (v1 :: V.int n :: vr2) ((1 : Nat) : Int) = some (.int n) from atI_nat rfl), _, rfl, pd, _, rfl, DGet.k (k := Sum.inl n) hD2, _, rfl, ?_⟩
          cases hval : valV kvs (Sum.inl n : Key) with
          | some u =>
            refine iteT ?_
            have h1 := hseen n
            rw [hval] at h1
            have h2 : decide (n ∈ seen) = true := h1.symm
            have := q H2 sm2
            rw [show evsOf t (.tuple ds) = false from hgo'.trans (by rw [h2]; rfl)] at this
            exact this
          | none =>
            refine iteF ?_
            have h1 := hseen n
            rw [hval] at h1
            have h2 : decide (n ∈ seen) = false := h1.symm
            refine ⟨_, rfl, _, rfl, c, (v1 :: .int n :: vr2), 1, .int n, rfl, rfl, hsc, (show atI (v1 :: V.int n :: vr2) ((1 : Nat) : Int) = some (.int n) from atI_nat rfl), pd, _, rfl, DPut.k (k := Sum.inl n) hD2 (small1000 (by omega)), ?_⟩
            refine ⟨putK kvs (Sum.inl n : Key) (.bl true), n :: seen, _, rfl, same_mut sm2 hpd, upd_same, ?_, fun m => ?_, ?_⟩
            · rw [putK_new _ hval, List.length_append]
              show kvs.length + 1 ≤ i + 1
              omega
            · rw [valV_put]
              by_cases z : m = n
              · subst z
                rw [if_pos rfl]
                simp
              · rw [if_neg (fun y => z (Sum.inl.inj y)), hseen m]
                exact decide_eq_decide.mpr (by simp [z])
            · rw [hgo', h2]
              rfl
    · rintro σ H' ⟨kvs, seen, o3, rfl, sm, hD, hkl, hseen, hgo⟩
      rw [hl, List.drop_length] at hgo
      have := q H' sm
      rw [show evsOf t (.tuple ds) = true from hgo] at this
      exact this
  · have e : (kindOf d == "tuple") = false := kind_tup_not fun ds z => ht ⟨ds, z⟩
    rw [e]
    refine iteT ?_
    have e2 : evsOf t d = false := by
      cases d with
      | tuple ds => exact absurd ⟨ds, rfl⟩ ht
      | _ => rfl
    have := q H (fun _ _ z => z)
    rw [e2] at this
    exact this
end
end K65
set_option Elab.async false
set_option linter.all false
set_option maxRecDepth 100000
set_option maxHeartbeats 8000000
namespace K65
open PySem PySem.Spec PyProof.Rows L2 Dt
/-! ### a form as data -/
mutual
def dD : Dt → PyData
  | .c k r => .tuple (dD k :: dDs r)
  | _ => .tuple []
def dDs : Dt → List PyData
  | .c k r => dD k :: dDs r
  | _ => []
end
theorem dD_row : ∀ t : Dt, dD t = .tuple (dDs t)
  | .x => by unfold dD dDs; rfl
  | .o => by unfold dD dDs; rfl
  | .c k r => by rw [dD, dDs]
theorem dDs_len : ∀ t : Dt, (dDs t).length = t.len
  | .x => by unfold dDs; rfl
  | .o => by unfold dDs; rfl
  | .c k r => by
    rw [dDs, List.length_cons, dDs_len r]
    rfl
theorem dDs_mem : ∀ {t : Dt} {d : PyData}, d ∈ dDs t → ∃ k ∈ t.kids, d = dD k
  | .x, d, h => by unfold dDs at h; exact nomatch h
  | .o, d, h => by unfold dDs at h; exact nomatch h
  | .c k r, d, h => by
    rw [dDs] at h
    rcases List.mem_cons.mp h with h | h
    · exact ⟨k, List.mem_cons_self .., h⟩
    · obtain ⟨k', h1, h2⟩ := dDs_mem h
      exact ⟨k', List.mem_cons_of_mem _ h1, h2⟩
theorem shf_dps {K : PySem.W.Frag} {H : Hp} {vs : List V} {t : Dt} (h : ShF K H vs t) : DpAll K H vs (dDs t) := by
  induction h with
  | nil => unfold dDs; exact .nil
  | @cons a vs ws k r h p q ih1 ih2 =>
    rw [dDs]
    refine .cons ?_ ih2
    rw [dD_row]
    exact .tup h ih1
theorem shv_dp {K : PySem.W.Frag} {H : Hp} {v : V} {t : Dt} (h : ShV K H v t) : Dp K H v (dD t) := by
  obtain ⟨a, vs, rfl, h1, h2⟩ := h
  rw [dD_row]
  exact .tup h1 (shf_dps h2)
theorem plT_mono : ∀ (n m : Nat) (d : PyData), n ≤ m → plainT n d → plainT m d
  | 0, _, d, _, h => by cases d <;> exact False.elim h
  | n + 1, 0, d, h, _ => by omega
  | n + 1, m + 1, d, hm, h => by
    cases d with
    | none => trivial
    | bool _ => trivial
    | int _ => trivial
    | str _ => trivial
    | tuple ds => exact ⟨h.1, fun d hd => plT_mono n m d (by omega) (h.2 d hd)⟩
    | list ds => exact False.elim h
    | dict _ => exact False.elim h
theorem plT_form : ∀ (n : Nat) (t : Dt), t.ht < n → t.nodes ≤ 1000 → plainT n (dD t)
  | 0, _, h, _ => absurd h (Nat.not_lt_zero _)
  | n + 1, t, h, hn => by
    rw [dD_row]
    refine ⟨by rw [dDs_len]; have := len_lt_nodes t; omega, fun d hd => ?_⟩
    obtain ⟨k, hk, rfl⟩ := dDs_mem hd
    obtain ⟨j, hj⟩ := List.mem_iff_getElem?.mp hk
    have h1 := ht_kid t j k hj
    have h2 := idx_lt (show sub t [j] = some k by rw [sub_one, hj])
    exact plT_form n k (by omega) (by omega)
theorem plT_int {n : Nat} {i : Int} : plainT (n + 1) (.int i) := trivial
theorem plT_ints {n : Nat} {ns : List Int} (h : ns.length ≤ 1000) : plainT (n + 2) (intsD ns) := ⟨by rw [List.length_map]; omega, fun d hd => by
  obtain ⟨i, _, rfl⟩ := List.mem_map.mp hd
  trivial⟩
theorem rk_len {l : List En} (h : RkOK l) {e : En} (he : e ∈ l) : e.1.length ≤ 8 := by
  have h1 := h e he
  have h2 : (decide ((e.1.map PyData.int).length ≤ 8) && (e.1.map PyData.int).all partB) = true := h1
  rw [Bool.and_eq_true] at h2
  have := of_decide_eq_true h2.1
  rw [List.length_map] at this
  exact this
theorem plT_line {n : Nat} {l : List En} (h : RkOK l) (hl : l.length ≤ 1000) : plainT (n + 4) (.tuple (l.map enD)) := ⟨by rw [List.length_map]; omega, fun d hd => by
  obtain ⟨e, he, rfl⟩ := List.mem_map.mp hd
  refine ⟨by show 2 ≤ 1000000; decide, fun d hd => ?_⟩
  rcases List.mem_cons.mp hd with rfl | hd
  · exact plT_ints (by have := rk_len h he; omega)
  · rw [List.mem_singleton.mp hd]
    trivial⟩
theorem plT_lines {n : Nat} {T : Dt} {L : Lns} (h : ∀ q, RkOK (L q)) (hl : ∀ q, (L q).length ≤ 1000) (hn : T.nodes ≤ 1000) : plainT (n + 5) (linesD T L) := ⟨by rw [List.length_map, ad_len]; omega, fun d hd => by
  obtain ⟨q, _, rfl⟩ := List.mem_map.mp hd
  exact plT_line (h q) (hl q)⟩
/-! ### equal as data -/
theorem eqv_ints : ∀ a b : List Int, PyData.eqv (intsD a) (intsD b) = decide (a = b) := fun a b => by
  have h : ∀ a b : List Int, PyData.eqvAll (a.map PyData.int) (b.map PyData.int) = decide (a = b) := by
    intro a
    induction a with
    | nil => intro b; cases b <;> simp [PyData.eqvAll]
    | cons x a ih =>
      intro b
      cases b with
      | nil => simp [PyData.eqvAll]
      | cons y b =>
        simp only [List.map_cons, PyData.eqvAll, PyData.eqv, ih]
        by_cases e : x = y <;> by_cases e2 : a = b <;> simp [e, e2]
  show PyData.eqv (.tuple _) (.tuple _) = _
  rw [PyData.eqv, h]
theorem eqv_en (e f : En) : PyData.eqv (enD e) (enD f) = decide (e = f) := by
  obtain ⟨a, n⟩ := e
  obtain ⟨b, m⟩ := f
  show PyData.eqv (.tuple [intsD a, .int n]) (.tuple [intsD b, .int m]) = _
  simp only [PyData.eqv, PyData.eqvAll, eqv_ints, Bool.and_true]
  by_cases e : a = b <;> by_cases e2 : n = m <;> simp [e, e2]
theorem eqv_line : ∀ a b : List En, PyData.eqvAll (a.map enD) (b.map enD) = decide (a = b)
  | [], [] => by simp [PyData.eqvAll]
  | [], _ :: _ => by simp [PyData.eqvAll]
  | _ :: _, [] => by simp [PyData.eqvAll]
  | x1 :: a, y1 :: b => by
    simp only [List.map_cons, PyData.eqvAll, eqv_en, eqv_line a b]
    by_cases e : x1 = y1 <;> by_cases e2 : a = b <;> simp [e, e2]
theorem eqv_rows (f g : List En → PyData) (h : ∀ a b, PyData.eqv (f a) (g b) = decide (a = b)) : ∀ a b : List (List En), PyData.eqvAll (a.map f) (b.map g) = decide (a = b)
  | [], [] => by simp [PyData.eqvAll]
  | [], _ :: _ => by simp [PyData.eqvAll]
  | _ :: _, [] => by simp [PyData.eqvAll]
  | x1 :: a, y1 :: b => by
    simp only [List.map_cons, PyData.eqvAll, h, eqv_rows f g h a b]
    by_cases e : x1 = y1 <;> by_cases e2 : a = b <;> simp [e, e2]
def lnsOf (T : Dt) (L : Lns) : List (List En) := (ad T).map L
def lnsL (T : Dt) (L : Lns) : PyData := .list ((lnsOf T L).map fun l => .list (l.map enD))
theorem linesD_of (T : Dt) (L : Lns) : linesD T L = .tuple ((lnsOf T L).map fun l => .tuple (l.map enD)) := by
  unfold linesD lnsOf
  rw [List.map_map]
  rfl
theorem eqv_lnsL (T T2 : Dt) (L L2 : Lns) : PyData.eqv (lnsL T L) (lnsL T2 L2) = decide (lnsOf T L = lnsOf T2 L2) := by
  unfold lnsL
  rw [PyData.eqv]
  exact eqv_rows _ _ (fun a b => by rw [PyData.eqv, eqv_line]) _ _
theorem eqv_linesD (T T2 : Dt) (L L2 : Lns) : PyData.eqv (linesD T L) (linesD T2 L2) = decide (lnsOf T L = lnsOf T2 L2) := by
  rw [linesD_of, linesD_of, PyData.eqv]
  exact eqv_rows _ _ (fun a b => by rw [PyData.eqv, eqv_line]) _ _
/-- forms -/
def bare : Dt → Dt
  | .c k r => .c (bare k) (bare r)
  | _ => .o
mutual
theorem eqv_form : ∀ a b : Dt, PyData.eqv (dD a) (dD b) = true → bare a = bare b := fun a b h => by
  rw [dD_row, dD_row, PyData.eqv] at h
  exact eqv_forms a b h
theorem eqv_forms : ∀ a b : Dt, PyData.eqvAll (dDs a) (dDs b) = true → bare a = bare b
  | .c k r, .c k' r', h => by
    rw [dDs, dDs, PyData.eqvAll, Bool.and_eq_true] at h
    have h1 := h.1
    rw [dD_row, dD_row, PyData.eqv] at h1
    show Dt.c (bare k) (bare r) = Dt.c (bare k') (bare r')
    rw [eqv_forms k k' h1, eqv_forms r r' h.2]
  | .x, .x, h => rfl
  | .x, .o, h => rfl
  | .o, .x, h => rfl
  | .o, .o, h => rfl
  | .x, .c k r, h => by
    unfold dDs at h
    simp [PyData.eqvAll] at h
  | .o, .c k r, h => by
    unfold dDs at h
    simp [PyData.eqvAll] at h
  | .c k r, .x, h => by
    unfold dDs at h
    simp [PyData.eqvAll] at h
  | .c k r, .o, h => by
    unfold dDs at h
    simp [PyData.eqvAll] at h
end
theorem eqvAll_self : ∀ t : Dt, PyData.eqvAll (dDs t) (dDs t) = true
  | .x => by unfold dDs; simp [PyData.eqvAll]
  | .o => by unfold dDs; simp [PyData.eqvAll]
  | .c k r => by
    rw [dDs, PyData.eqvAll, eqvAll_self r, dD_row, PyData.eqv, eqvAll_self k]
    rfl
theorem eqv_self (t : Dt) : PyData.eqv (dD t) (dD t) = true := by
  rw [dD_row, PyData.eqv]
  exact eqvAll_self t
/-- shaped -/
theorem shp_en {n : Nat} (e : En) : Shp (n + 2) (enD e) := shp_tup fun d hd => by
  rcases List.mem_cons.mp hd with rfl | hd
  · exact shp_ints
  · rw [List.mem_singleton.mp hd]
    exact shp_int
theorem shp_linesD {n : Nat} (T : Dt) (L : Lns) : Shp (n + 4) (linesD T L) := shp_tup fun d hd => by
  obtain ⟨q, _, rfl⟩ := List.mem_map.mp hd
  exact shp_tup fun d hd => by
    obtain ⟨e, _, rfl⟩ := List.mem_map.mp hd
    exact shp_en e
theorem shp_lnsL {n : Nat} (T : Dt) (L : Lns) : Shp (n + 4) (lnsL T L) := shp_lst fun d hd => by
  obtain ⟨q, _, rfl⟩ := List.mem_map.mp hd
  exact shp_lst fun d hd => by
    obtain ⟨e, _, rfl⟩ := List.mem_map.mp hd
    exact shp_en e
theorem shp_dD : ∀ (n : Nat) (t : Dt), t.ht < n → Shp n (dD t)
  | 0, _, h => absurd h (Nat.not_lt_zero _)
  | n + 1, t, h => by
    rw [dD_row]
    exact shp_tup fun d hd => by
      obtain ⟨k, hk, rfl⟩ := dDs_mem hd
      obtain ⟨j, hj⟩ := List.mem_iff_getElem?.mp hk
      have h1 := ht_kid t j k hj
      exact shp_dD n k (by omega)
end K65
set_option Elab.async false
set_option linter.all false
set_option maxRecDepth 100000
set_option maxHeartbeats 8000000
namespace K65
open PySem PySem.Spec PyProof.Rows L2 Dt
theorem below_pack {n : Int} (h : 0 ≤ n) (g : n < packB) : belowB packB (some n) = true := by
  show (decide (0 ≤ n) && decide (n < packB)) = true
  rw [decide_eq_true h, decide_eq_true g]
  rfl
def RankI (ns : List Int) : Prop := ns.length ≤ 8 ∧ ∀ i ∈ ns, -rankB < i ∧ i < rankB
theorem rank_intsD {ns : List Int} (h : RankI ns) : rankOf (intsD ns) = true := by
  show (decide ((ns.map PyData.int).length ≤ 8) && (ns.map PyData.int).all partB) = true
  rw [Bool.and_eq_true]
  refine ⟨decide_eq_true (by rw [List.length_map]; exact h.1), List.all_eq_true.mpr fun d hd => ?_⟩
  obtain ⟨i, hi, rfl⟩ := List.mem_map.mp hd
  have := h.2 i hi
  show (decide (-rankB < i) && decide (i < rankB)) = true
  rw [Bool.and_eq_true]
  exact ⟨decide_eq_true this.1, decide_eq_true this.2⟩
theorem dep_det : ∀ (p p2 : Ad) (u : Dt) (L : Lns) (n n2 : Int) (rs rs2 : List (List Int)), Dep u L n p rs → Dep u L n2 p2 rs2 → n = n2 ∧ p = p2 ∧ rs = rs2 := by
  intro p
  induction p with
  | nil =>
    intro p2 u L n n2 rs rs2 d d2
    obtain ⟨w1, e1, l1⟩ := d.lf
    rw [sub_nil] at e1
    obtain rfl := Option.some.inj e1
    cases p2 with
    | nil =>
      obtain ⟨r, t, h1, h2⟩ := d.la
      obtain ⟨r2, t2, h3, h4⟩ := d2.la
      rw [h1] at h3
      injection h3 with h3 _
      injection h3 with h3 h5
      refine ⟨h5, rfl, ?_⟩
      have k1 := d.len
      have k2 := d2.len
      match rs, rs2, k1, k2, h2, h4 with
      | [a1], [a2], _, _, h2, h4 =>
        have h2' : a1 = r := Option.some.inj h2
        have h4' : a2 = r2 := Option.some.inj h4
        rw [h2', h4', h3]
    | cons j p2 =>
      obtain ⟨w2, e2, _⟩ := d2.lf
      obtain ⟨k, hk, _⟩ := sub_len e2
      have := kid_lt hk
      omega
  | cons j p ih =>
    intro p2 u L n n2 rs rs2 d d2
    obtain ⟨w1, e1, l1⟩ := d.lf
    obtain ⟨k, hk, _⟩ := sub_len e1
    have hj := kid_lt hk
    cases p2 with
    | nil =>
      obtain ⟨w2, e2, l2⟩ := d2.lf
      rw [sub_nil] at e2
      obtain rfl := Option.some.inj e2
      omega
    | cons j2 p2 =>
      obtain ⟨r, t, h1, h2⟩ := d.hd 0 j rfl
      obtain ⟨r2, t2, h3, h4⟩ := d2.hd 0 j2 rfl
      rw [List.take_zero] at h1 h3
      rw [h1] at h3
      injection h3 with h3 _
      injection h3 with h3 h5
      have ej : j = j2 := by omega
      subst ej
      match rs, rs2, h2, h4 with
      | a1 :: rs, a2 :: rs2, h2, h4 =>
        have h2' : a1 = r := Option.some.inj h2
        have h4' : a2 = r2 := Option.some.inj h4
        obtain ⟨z1, z2, z3⟩ := ih p2 k (sh j L) n n2 rs rs2 (d.kid hk) (d2.kid hk)
        exact ⟨z1, by rw [z2], by rw [h2', h4', h3, z3]⟩
      | [], _, h2, _ => exact nomatch h2
      | _ :: _, [], _, h4 => exact nomatch h4
theorem its_cut {p q : Ad} {L : Lns} {n : Int} (h : n ∈ its (cutL p L q)) : n ∈ its (L q) := by
  unfold cutL at h
  by_cases c : q <+: p
  · rw [if_pos c] at h
    obtain ⟨e, he, rfl⟩ := List.mem_map.mp h
    exact List.mem_map_of_mem (List.mem_of_mem_tail he)
  · rw [if_neg c] at h
    exact h
theorem its_psh {p q : Ad} {rs : List (List Int)} {T : Dt} {L : Lns} {n x : Int} (hp : p ∈ lv T) (hq : q ∈ lv T) (h : x ∈ its (pshL p rs n L q)) : x = n ∨ x ∈ its (L q) := by
  by_cases e : q = p
  · subst e
    exact List.mem_cons.mp ((pshL_self q rs n L).mem_iff.mp h)
  · rw [pshL_leaf hp hq e] at h
    exact .inr h
theorem dep_ne {u : Dt} {L : Lns} {n : Int} {p : Ad} {rs : List (List Int)} (d : Dep u L n p rs) : L [] ≠ [] := fun z => by
  cases p with
  | nil =>
    obtain ⟨r, t, h, _⟩ := d.la
    rw [z] at h
    exact nomatch h
  | cons j p =>
    obtain ⟨r, t, h, _⟩ := d.hd 0 j rfl
    rw [List.take_zero, z] at h
    exact nomatch h
theorem dep_rk {u : Dt} {L : Lns} {n : Int} {p : Ad} {rs : List (List Int)} (d : Dep u L n p rs) (h : ∀ q, RkOK (L q)) : ∀ r ∈ rs, rankOf (intsD r) = true := fun r hr => by
  obtain ⟨k, hk⟩ := List.mem_iff_getElem?.mp hr
  have hkl := (List.getElem?_eq_some_iff.mp hk).1
  rw [d.len] at hkl
  by_cases c : k < p.length
  · obtain ⟨r', t, e1, e2⟩ := d.hd k _ (List.getElem?_eq_getElem c)
    rw [hk] at e2
    obtain rfl := Option.some.inj e2
    exact h _ (r, _) (by rw [e1]; exact List.mem_cons_self ..)
  · obtain rfl : k = p.length := by omega
    obtain ⟨r', t, e1, e2⟩ := d.la
    rw [hk] at e2
    obtain rfl := Option.some.inj e2
    exact h _ (r, n) (by rw [e1]; exact List.mem_cons_self ..)
theorem rank_len {r : List Int} (h : rankOf (intsD r) = true) : r.length ≤ 8 := by
  have h1 : (decide ((r.map PyData.int).length ≤ 8) && (r.map PyData.int).all partB) = true := h
  rw [Bool.and_eq_true] at h1
  have := of_decide_eq_true h1.1
  rwa [List.length_map] at this
theorem pl_ints (n : Nat) {l : List Int} (h : l.length ≤ 1000000) : plainT (n + 2) (intsD l) := ⟨by rw [List.length_map]; exact h, fun d hd => by
  obtain ⟨i, _, rfl⟩ := List.mem_map.mp hd
  trivial⟩
theorem pl_dep {n : Int} {i : Nat} {rs : List (List Int)} (h : rs.length ≤ 1000000) (g : ∀ r ∈ rs, rankOf (intsD r) = true) : plainT 20 (depD n i rs) := by
  refine ⟨(by show 3 ≤ 1000000; decide), fun d hd => ?_⟩
  rcases List.mem_cons.mp hd with rfl | hd
  · trivial
  rcases List.mem_cons.mp hd with rfl | hd
  · trivial
  rcases List.mem_cons.mp hd with rfl | hd
  · refine ⟨by rw [List.length_map]; exact h, fun d hd => ?_⟩
    obtain ⟨r, hr, rfl⟩ := List.mem_map.mp hd
    exact pl_ints 16 (by have := rank_len (g r hr); omega)
  · exact nomatch hd
theorem lf_ex : ∀ (d : Nat) (t : Dt), t.size ≤ d → ∃ p w, sub t p = some w ∧ w.len = 0
  | 0, t, h => by have := size_pos t; omega
  | d + 1, t, h => by
    by_cases e : t.len = 0
    · exact ⟨[], t, sub_nil t, e⟩
    · obtain ⟨k, hk⟩ := kid_of (u := t) (j := 0) (by omega)
      obtain ⟨p, w, h1, h2⟩ := lf_ex d k (by have := kid_sz hk; omega)
      exact ⟨0 :: p, w, by rw [sub_kid hk]; exact h1, h2⟩
theorem lf_pos (t : Dt) : 0 < t.lf := by
  obtain ⟨p, w, h1, h2⟩ := lf_ex _ t (Nat.le_refl _)
  exact List.length_pos_of_mem (List.mem_filter.mpr ⟨sub_ad h1, by rw [isLf_o h1, h2]; rfl⟩ : p ∈ lv t)
structure SJ (K : PySem.W.Frag) (C CS : Addr) (S : List Addr) (H : Hp) (a ta la sd : Addr) (Ls : List Addr) (T : Dt) (L : Lns) (kv : List (Key × V)) (m : Nat) : Prop where
  st : StE K C CS S H a ta la sd Ls T L kv
  con : Con T L
  se : Seat T L kv
  gd : T.good 1 = true
  ht : T.ht ≤ 15
  nd : T.nodes ≤ 64
  sm : T.size ≤ 100000
  sz : ∀ q, (L q).length ≤ m
  m9 : m ≤ 100
  kz : kv.length ≤ 10000 + m
theorem cutL_le (p q : Ad) (L : Lns) : (cutL p L q).length ≤ (L q).length := by
  unfold cutL
  by_cases h : q <+: p
  · rw [if_pos h, List.length_tail]
    omega
  · rw [if_neg h]
    exact Nat.le_refl _
theorem pshL_le (p q : Ad) (rs : List (List Int)) (n : Int) (L : Lns) : (pshL p rs n L q).length ≤ (L q).length + 1 := by
  unfold pshL
  by_cases h : q <+: p
  · rw [if_pos h, (insE_perm _ _).length_eq]
    exact Nat.le_refl _
  · rw [if_neg h]
    omega
section
variable {K : PySem.W.Frag} {C CS : Addr} {S : List Addr} {H H' : Hp} {tr bg : Addr} {Bs : List Addr} {a ta la sd : Addr} {Ls : List Addr} {T : Dt} {B : Bgs} {L : Lns} {kv : List (Key × V)} {now : Int} {m : Nat}
theorem SJ.ht20 (j : SJ K C CS S H a ta la sd Ls T L kv m) : T.ht < 20 := by have := j.ht; omega
theorem SJ.sz' (j : SJ K C CS S H a ta la sd Ls T L kv m) : ∀ q, (L q).length ≤ 100000 := fun q => by have := j.sz q; have := j.m9; omega
theorem SJ.nd' (j : SJ K C CS S H a ta la sd Ls T L kv m) : T.nodes ≤ 1000 := by have := j.nd; omega
theorem SJ.ok (j : SJ K C CS S H a ta la sd Ls T L kv m) : LnsOK T L kv := ⟨j.st.rk, j.st.pw, j.se, fun q => by have := j.sz q; have := j.m9; omega, j.gd, j.ht20, j.sm⟩
theorem SJ.keep {M : List Addr} (j : SJ K C CS S H a ta la sd Ls T L kv m) (g : GoS M H H') (h : ∀ y ∈ M, y ∈ S) (n2 : ∀ y ∈ M, y ∉ sd :: Ls) : SJ K C CS S H' a ta la sd Ls T L kv m := ⟨j.st.keep g h n2, j.con, j.se, j.gd, j.ht, j.nd, j.sm, j.sz, j.m9, j.kz⟩
theorem SJ.same (j : SJ K C CS S H a ta la sd Ls T L kv m) (e : Same H H') : SJ K C CS S H' a ta la sd Ls T L kv m := j.keep (M := []) (GoS.of e) (fun y h => nomatch h) fun y h => nomatch h
theorem SJ.mono (j : SJ K C CS S H a ta la sd Ls T L kv m) {m2 : Nat} (h : m ≤ m2) (h2 : m2 ≤ 100) : SJ K C CS S H a ta la sd Ls T L kv m2 := ⟨j.st, j.con, j.se, j.gd, j.ht, j.nd, j.sm, fun q => Nat.le_trans (j.sz q) h, h2, by have := j.kz; omega⟩
theorem dropK_len (kv : List (Key × V)) (k : Key) : (dropK kv k).length ≤ kv.length := by
  unfold dropK
  exact List.length_filter_le ..
theorem SJ.cut (j : SJ K C CS S H a ta la sd Ls T L kv m) {n : Int} {p : Ad} {rs : List (List Int)} (d : Dep T L n p rs) (s : StE K C CS S H' a ta la sd Ls T (cutL p L) (dropK kv (Sum.inl n : Key))) : SJ K C CS S H' a ta la sd Ls T (cutL p L) (dropK kv (Sum.inl n : Key)) m :=
  ⟨s, dep_con j.con d, j.se.cut d, j.gd, j.ht, j.nd, j.sm, fun q => Nat.le_trans (cutL_le p q L) (j.sz q), j.m9, Nat.le_trans (dropK_len ..) j.kz⟩
theorem SJ.psh (j : SJ K C CS S H a ta la sd Ls T L kv m) {n : Int} {i : Nat} {p : Ad} {rs : List (List Int)} (hp : (lv T)[i]? = some p) (hn : valV kv (Sum.inl n : Key) = none) (hm : m + 1 ≤ 100) (s : StE K C CS S H' a ta la sd Ls T (pshL p rs n L) (putK kv (Sum.inl n : Key) (.int (i : Nat)))) : SJ K C CS S H' a ta la sd Ls T (pshL p rs n L) (putK kv (Sum.inl n : Key) (.int (i : Nat))) (m + 1) := by
  obtain ⟨w, hw, hw0⟩ := lv_lf (List.mem_of_getElem? hp)
  exact ⟨s, pshL_con j.con hw hw0, j.se.psh rs hp hn, j.gd, j.ht, j.nd, j.sm, fun q => Nat.le_trans (pshL_le p q rs n L) (Nat.succ_le_succ (j.sz q)), hm, by have := j.kz; have := putK_le kv (Sum.inl n : Key) (.int (i : Nat)); omega⟩
theorem SJ.plT (j : SJ K C CS S H a ta la sd Ls T L kv m) {n : Nat} : plainT (n + 5) (linesD T L) := plT_lines j.st.rk (fun q => by have := j.sz q; have := j.m9; omega) j.nd'
theorem seat_absent (s : Seat T L kv) {n : Int} (h : ∀ p ∈ lv T, n ∉ its (L p)) : valV kv (Sum.inl n : Key) = none := by
  cases e : valV kv (Sum.inl n : Key) with
  | none => rfl
  | some v =>
    obtain ⟨n', i, p, z1, z2, z3, z4⟩ := s.fr _ _ e
    injection z1 with z1
    subst z1
    exact absurd z4 (h p (List.mem_of_getElem? z3))
end
/-! ### the methods of a standing, called where they do not raise -/
theorem fn_quiet {P : Program} {w : World} {K : PySem.W.Frag} {mg : Str → Option Value} {base : Heap} {k : Nat} {f : Addr} {fd : FuncData} {ps : List Str} {sp sp' : Sp} (F : FnOk P w K mg base (L2.CX P w) k f fd ps sp) (h : ∀ vs H Q E, sp' vs H Q E → sp vs H Q (fun _ _ _ => False)) : FnOk P w K mg base CX0 k f fd ps sp' :=
  ⟨fun vs H Q E z => F.len vs H Q _ (h vs H Q E z), fun A outer s H args us vs Q E hr e b v z => codeAny_mono (F.run A outer s H args us vs Q _ hr e b v (h _ _ _ _ z)) fun r s' hq => by
    match r, hq with
    | .ok fl, hq =>
      cases fl with
      | ret u => exact hq
      | _ => exact hq.elim
    | .error e, hq =>
      obtain ⟨_, _, _, _, _, _, _, _, _, _, _, _, z⟩ := hq
      exact z⟩
theorem cal_quiet {P : Program} {w : World} {K : PySem.W.Frag} {mg : Str → Option Value} {base : Heap} {k : Nat} {x : Str} {ps : List Str} {sp sp' : Sp} (F : CalX P w K mg base (L2.CX P w) k x ps sp) (h : ∀ vs H Q E, sp' vs H Q E → sp vs H Q (fun _ _ _ => False)) : CalX P w K mg base CX0 k x ps sp' := by
  obtain ⟨f, fd, z1, z2⟩ := F.ex
  exact ⟨f, fd, fn_quiet z1 h, z2⟩
structure MQ (P : Program) (w : World) (K : PySem.W.Frag) (mg : Str → Option Value) (base : Heap) (C : Addr) (k : Nat) (m : Str) (ps : List Str) (sp : Sp) : Prop where
  ex : ∃ f fd, Meth K C m f ∧ FnOk P w K mg base CX0 k f fd ps sp ∧ L2.Binds K fd ps []
section
variable {X : Cx} {j k : Nat} {C : Addr} {ps : List Str} {sp : Sp} {m : Str} {pos apos : Pos} {o e : Expr} {es : List Expr} {ta : TE} {t : TA}
theorem pe_m1 {pl : Sem Bool} (he : PE X o ta) (c : Cls X.K C) (M : MQ X.prog X.w X.K X.mg X.base C k m ps sp) (hr : Room j X.A) (hk : k ≤ j) (ha : PA X (e :: es) t)
    (hst : starEach (e :: es) X.env = (false, eval e X.env) :: starEach es X.env := by rfl) (hpl : (backTo pos (starEach es X.env)).any (·.1) = false := by rfl)
    (ht : eval (.Call (.Attribute o m apos) (e :: es) [] pos) X.env = (do
      let ov ← eval o X.env
      standAt apos.atName
      let (f, first) ← holding [ov] (getMethod ov m pl)
      callWith pos f first (backTo pos (starEach (e :: es) X.env)) (backToKw pos (keywordEach [] X.env))) := by rfl) :
    PE X (.Call (.Attribute o m apos) (e :: es) [] pos) (tMeth C m sp [] E0 ta t) := by
  obtain ⟨f, fd, hm, F, b⟩ := M.ex
  exact pe_meth he c hm F (hr.mono hk) b .nil pass0 ha hst hpl ht
theorem pe_m0 {pl : Sem Bool} (he : PE X o ta) (c : Cls X.K C) (M : MQ X.prog X.w X.K X.mg X.base C k m ps sp) (hr : Room j X.A) (hk : k ≤ j)
    (ht : eval (.Call (.Attribute o m apos) [] [] pos) X.env = (do
      let ov ← eval o X.env
      standAt apos.atName
      let (f, first) ← holding [ov] (getMethod ov m pl)
      callWith pos f first (backTo pos (starEach [] X.env)) (backToKw pos (keywordEach [] X.env))) := by rfl) :
    PE X (.Call (.Attribute o m apos) [] [] pos) (tMeth C m sp [] E0 ta tNil) := by
  obtain ⟨f, fd, hm, F, b⟩ := M.ex
  exact pe_meth0 he c hm F (hr.mono hk) b .nil pass0 ht
end
def spPushQ (K : PySem.W.Frag) (C CS : Addr) : Sp := fun vs H Q _ => ∃ (a ta la sd : Addr) (S Ls : List Addr) (T : Dt) (L : Lns) (kv : List (Key × V)) (n : Int) (i : Nat) (p : Ad) (z : V) (rs : List (List Int)), vs = [.ref a, .int n, .int (i : Nat), z] ∧ StE K C CS S H a ta la sd Ls T L kv ∧ T.ht < 20 ∧ valV kv (Sum.inl n : Key) = none ∧ 0 ≤ n ∧ n < packB ∧ (lv T)[i]? = some p ∧ Dp K (offS S H) z (.tuple (rs.map intsD)) ∧ rs.length = p.length + 1 ∧ (∀ r ∈ rs, rankOf (intsD r) = true) ∧ (∀ q, (L q).length ≤ 100000) ∧ kv.length ≤ 100000 ∧
  ∀ H', GoS (sd :: Ls) H H' → StE K C CS S H' a ta la sd Ls T (pshL p rs n L) (putK kv (Sum.inl n : Key) (.int (i : Nat))) → Q .non H'
def spMadeQ (K : PySem.W.Frag) (C CS : Addr) : Sp := fun vs H Q _ => ∃ (a dx : Addr) (v : V) (t : Dt), vs = [.ref a, v] ∧ H a = some (.ins CS dx []) ∧ DtV K H v t ∧ t.size ≤ 100000 ∧ t.good 1 = true ∧ t.ht < 20 ∧ t.nodes ≤ 1000 ∧
  (∀ H' ta la sd Ls, StE K C CS (sd :: Ls) H' a ta la sd Ls t (fun _ => []) [] → TN K H (offS (sd :: Ls) H') C ta t ∧ H la = none → (∀ y o, H y = some o → y ≠ a → H' y = some o) → (∀ y ∈ sd :: Ls, H y = none) → Q .non H')
theorem stv_of {K : PySem.W.Frag} {C CS : Addr} {S : List Addr} {H : Hp} {a ta la sd : Addr} {Ls : List Addr} {T : Dt} {L : Lns} {kv : List (Key × V)} (s : StE K C CS S H a ta la sd Ls T L kv) : StV K CS H (.ref a) true := by
  obtain ⟨dx, h⟩ := s.obj
  exact .inl ⟨rfl, a, dx, _, rfl, h⟩
section
variable {P : Program} {w : World} {K : PySem.W.Frag} {mg : Str → Option Value} {base : Heap} {C CS U : Addr}
theorem fit_ok {rs : List (List Int)} {n : Nat} (h : rs.length = n) (g : ∀ r ∈ rs, rankOf (intsD r) = true) : fitOf n (.tuple (rs.map intsD)) = true := by
  unfold fitOf
  show (decide ((rs.map intsD).length = n) && (rs.map intsD).all rankOf) = true
  rw [decide_eq_true (by rw [List.length_map, h]), Bool.true_and, List.all_eq_true]
  intro x hx
  obtain ⟨r, hr, rfl⟩ := List.mem_map.mp hx
  exact g r hr
theorem ints_inj : ∀ {a b : List Int}, intsD a = intsD b → a = b := fun {a b} h => by
  have := congrArg rkInts h
  rwa [rkInts_ints, rkInts_ints] at this
theorem map_ints_inj : ∀ {a b : List (List Int)}, a.map intsD = b.map intsD → a = b
  | [], [], _ => rfl
  | [], _ :: _, h => nomatch h
  | _ :: _, [], h => nomatch h
  | z1 :: a, z2 :: b, h => by
    rw [List.map_cons, List.map_cons] at h
    injection h with h1 h2
    rw [ints_inj h1, map_ints_inj h2]
theorem pushQ {f : Addr} {fd : FuncData} (F : FnOk P w K mg base (L2.CX P w) 5 f fd ["self", "number", "queue", "ranks"] (spPush K C CS U)) : FnOk P w K mg base CX0 5 f fd ["self", "number", "queue", "ranks"] (spPushQ K C CS) := by
  refine fn_quiet F fun vs H Q E h => ?_
  obtain ⟨a, ta, la, sd, S, Ls, T, L, kv, n, i, p, z, rs, rfl, st, hht, hab, n0, n1, hp, hz, hl, hrk, hsz, hkv, q⟩ := h
  have hA : absentB kv (some n) = true := by
    unfold absentB
    rw [below_pack n0 n1]
    show (true && !(valV kv (Sum.inl n : Key)).isSome) = true
    rw [hab]
    rfl
  have hpl := ht_path (List.mem_of_getElem? hp)
  refine ⟨a, ta, la, sd, S, Ls, T, L, kv, _, _, _, _, _, _, rfl, st, hht, (show NumV K H _ (some _) from rfl), (show NumV K H _ (some _) from rfl), hz, (fun ds e => ?_), hsz, hkv, (fun y => ?_), (fun _ y => ?_), (fun _ i' p' e hp' y => ?_), fun _ n' i' p' rs' e e2 hp' e3 hl' hrk' H' g st' => ?_⟩
  · injection e with e
    rw [← e, List.length_map, hl]
    omega
  · rw [hA] at y
    exact nomatch y
  · have hi := (List.getElem?_eq_some_iff.mp hp).1
    rw [show (lv T).length = T.lf from rfl] at hi
    have y2 : (decide ((0 : Int) ≤ (i : Nat)) && decide (((i : Nat) : Int) < (T.lf : Nat))) = false := y
    rw [decide_eq_true (by omega), decide_eq_true (by omega)] at y2
    have y := y2
    exact nomatch y
  · have e2 : i' = i := by
      injection e with e
      omega
    subst e2
    rw [lv_inj hp' hp, fit_ok hl hrk] at y
    exact nomatch y
  · obtain rfl := Option.some.inj e
    have e4 : i' = i := by
      injection e2 with e2
      omega
    subst e4
    obtain rfl := lv_inj hp' hp
    injection e3 with e3
    obtain rfl := map_ints_inj e3
    exact q H' g st'
theorem madeQ {f : Addr} {fd : FuncData} (F : FnOk P w K mg base (L2.CX P w) 24 f fd ["self", "form"] (spMade K C CS U)) : FnOk P w K mg base CX0 24 f fd ["self", "form"] (spMadeQ K C CS) := by
  refine fn_quiet F fun vs H Q E h => ?_
  obtain ⟨a, dx, v, t, rfl, ha, hv, hs, g, h1, h2, q⟩ := h
  refine ⟨a, dx, v, t, rfl, ha, hv, hs, (fun g' => ?_), fun g' => ?_⟩
  · exact ⟨h1, h2, q⟩
  · rw [g] at g'
    exact nomatch g'
end
end K65
set_option Elab.async false
set_option linter.all false
set_option maxRecDepth 100000
set_option maxHeartbeats 4000000
namespace L2
open PySem PySem.Spec PyProof.Rows
/-! ### a method called, its error going to a try of this def -/
def tMethT (C : Addr) (m : Str) (sp : Sp) (E : L2.St → XK) (ta : TE) (t : TA) : TE := fun σ H Q => ta σ H fun x H1 => ∃ a dx fs, x = .ref a ∧ H1 a = some (.ins C dx fs) ∧ fs.lookup m = none ∧
  t σ H1 fun vs H2 => sp (x :: vs) H2 Q (E σ)
def tMethTK (C : Addr) (m : Str) (sp : Sp) (n : Nat) (gV : List V → List V) (E : L2.St → XK) (ta : TE) (tk : TA) : TE := fun σ H Q => ta σ H fun x H1 => ∃ a dx fs, x = .ref a ∧ H1 a = some (.ins C dx fs) ∧ fs.lookup m = none ∧
  tk σ H1 fun zs H2 => zs.length = n ∧ sp (x :: gV zs) H2 Q (E σ)
section
variable {X : Cx} {CX : CXT} {j k : Nat} {f C : Addr} {fd : FuncData} {ps ks : List Str} {sp : Sp} {E : L2.St → XK} {x m : Str} {p pos apos : Pos} {o e : Expr} {es : List Expr} {kws : List Keyword} {ta : TE} {t tk : TA} {g : {α : Type} → List α → List α}
theorem run_fnT {pins : List (Addr × Obj)} {σ : L2.St} {H : Hp} {s : Shared} {Q : VK} {us : List Value} {vs : List V} (F : FnOk X.prog X.w X.K X.mg X.base CX k f fd ps sp) (hr : Room k X.A) (hb : Binds X.K fd ps []) (hx : PassesAt CX X σ (E σ))
    (I : Inv X pins σ H s) (r : Vals vs us) (h : sp vs H Q (E σ)) : wpAny (model X.prog X.w) X.A (call (.ref f) us) (EP X pins σ Q) X.xe s := by
  have hl : us.length = ps.length := by rw [← r.length]; exact F.len _ _ _ _ h
  have hb' := hb s us I.kIn (by rw [List.append_nil]; exact hl)
  rw [List.append_nil] at hb'
  refine wpAny_call (codeAny_mono (F.run X.A X.stack s H ⟨us, []⟩ us vs Q (E σ) hr I.env0 hb' r h) fun r s' hq => ?_)
  cases r with
  | error e => exact hx pins H s e s' I hq
  | ok fl =>
    cases fl with
    | ret u => exact I.after hq
    | next => exact False.elim hq
    | brk => exact False.elim hq
    | cont => exact False.elim hq
theorem run_kwT {pins : List (Addr × Obj)} {σ : L2.St} {H : Hp} {s : Shared} {Q : VK} {u : Value} {ws : List Value} {v : V} {zs : List V} (F : FnOk X.prog X.w X.K X.mg X.base CX k f fd ps sp) (hr : Room k X.A) (hb : KwB fd ps ks g) (hx : PassesAt CX X σ (E σ))
    (I : Inv X pins σ H s) (r : RelV v u) (rz : Vals zs ws) (hl : zs.length = ks.length) (h : sp (v :: g zs) H Q (E σ)) : wpAny (model X.prog X.w) X.A (call (.ref f) [u] (ks.zip ws)) (EP X pins σ Q) X.xe s := by
  have r2 : Vals (v :: g zs) (u :: g ws) := .cons r (hb.rel rz)
  refine wpAny_call (codeAny_mono (F.run X.A X.stack s H ⟨[u], ks.zip ws⟩ (u :: g ws) (v :: g zs) Q (E σ) hr I.env0 (hb.to s u ws (rz.length.symm.trans hl)) r2 h) fun r s' hq => ?_)
  cases r with
  | error e => exact hx pins H s e s' I hq
  | ok fl =>
    cases fl with
    | ret u => exact I.after hq
    | next => exact False.elim hq
    | brk => exact False.elim hq
    | cont => exact False.elim hq
/-- a method that may raise, with its ways of being called -/
structure MX (P : Program) (w : World) (K : PySem.W.Frag) (mg : Str → Option Value) (base : Heap) (C : Addr) (k : Nat) (m : Str) (ps ks : List Str) (g : {α : Type} → List α → List α) (sp : Sp) : Prop where
  ex : ∃ f fd, Meth K C m f ∧ FnOk P w K mg base (L2.CX P w) k f fd ps sp ∧ Binds K fd ps [] ∧ KwB fd ps ks g
theorem pe_mT {pl : Sem Bool} (he : PE X o ta) (c : Cls X.K C) (M : MX X.prog X.w X.K X.mg X.base C k m ps ks g sp) (hr : Room j X.A) (hk : k ≤ j) (hx : ∀ σ, PassesAt (L2.CX X.prog X.w) X σ (E σ)) (ha : PA X (e :: es) t)
    (hst : starEach (e :: es) X.env = (false, eval e X.env) :: starEach es X.env := by rfl) (hpl : (backTo pos (starEach es X.env)).any (·.1) = false := by rfl)
    (ht : eval (.Call (.Attribute o m apos) (e :: es) [] pos) X.env = (do
      let ov ← eval o X.env
      standAt apos.atName
      let (f, first) ← holding [ov] (getMethod ov m pl)
      callWith pos f first (backTo pos (starEach (e :: es) X.env)) (backToKw pos (keywordEach [] X.env))) := by rfl) :
    PE X (.Call (.Attribute o m apos) (e :: es) [] pos) (tMethT C m sp E ta t) := by
  obtain ⟨f, fd, hm, F, b, kb⟩ := M.ex
  refine ⟨fun pins s σ H Q I h => ?_⟩
  refine PySem.W.methodCall_KW (pl := pl) (thn (he.run pins s σ H _ I h) fun u s1 ⟨x, H1, I1, rx, a, dx, fs, ex, ea, l, q⟩ => ?_) ht
  subst ex
  obtain rfl : u = Value.ref a := rx
  refine getmeth_ok I1 ea c hm l ?_
  refine PySem.W.callWith_K (first := [.ref a]) (h₀ := X.base) I.ok.mod.kin hm.kp (thn (ha.run pos pins s1 σ H1 _ I1 q) fun us s2 ⟨vs, H2, I2, r, q2⟩ => ⟨I2.kIn, ?_⟩) hst hpl
  exact run_fnT (us := .ref a :: us) (vs := .ref a :: vs) F (hr.mono hk) b (hx σ) I2 (.cons rfl r) q2
theorem pe_mTK {pl : Sem Bool} (he : PE X o ta) (c : Cls X.K C) (M : MX X.prog X.w X.K X.mg X.base C k m ps ks g sp) (hr : Room j X.A) (hk : k ≤ j) (hx : ∀ σ, PassesAt (L2.CX X.prog X.w) X σ (E σ)) (hkw : PK X kws tk)
    (ht : eval (.Call (.Attribute o m apos) [] kws pos) X.env = (do
      let ov ← eval o X.env
      standAt apos.atName
      let (f, first) ← holding [ov] (getMethod ov m pl)
      callWith pos f first (backTo pos (starEach [] X.env)) (backToKw pos (keywordEach kws X.env))) := by rfl)
    (hall : (backToKw pos (keywordEach kws X.env)).all (·.1.isSome) = true := by rfl) (hks : (backToKw pos (keywordEach kws X.env)).filterMap (·.1) = ks := by rfl)
    (hpl : ((backTo pos (starEach [] X.env)).any (·.1) || (backToKw pos (keywordEach kws X.env)).any (·.1.isNone)) = false := by rfl) :
    PE X (.Call (.Attribute o m apos) [] kws pos) (tMethTK C m sp ks.length g E ta tk) := by
  obtain ⟨f, fd, hm, F, b, kb⟩ := M.ex
  refine ⟨fun pins s σ H Q I h => ?_⟩
  refine PySem.W.methodCall_KW (pl := pl) (thn (he.run pins s σ H _ I h) fun u s1 ⟨x, H1, I1, rx, a, dx, fs, ex, ea, l, q⟩ => ?_) ht
  subst ex
  obtain rfl : u = Value.ref a := rx
  refine getmeth_ok I1 ea c hm l ?_
  refine PySem.W.callWith_KW0 (first := [.ref a]) (h₀ := X.base) I.ok.mod.kin hm.kp hall ?_ hpl
  refine thn (hkw.run pos pins s1 σ H1 _ I1 q) fun ws s2 ⟨zs, H2, I2, rz, hl, q2⟩ => ⟨I2.kIn, ?_⟩
  rw [hks]
  exact run_kwT (v := .ref a) F (hr.mono hk) kb (hx σ) I2 (show RelV (V.ref a) (Value.ref a) from rfl) rz hl q2
end
end L2
namespace K65
open PySem PySem.Spec PyProof.Rows L2 Dt
/-! ### line_of, lies_at, many_present, packet_gone, form_of -/
def spLineOf (K : PySem.W.Frag) (C CS U : Addr) : Sp := fun vs H Q E => ∃ (a ta la sd : Addr) (S Ls : List Addr) (T : Dt) (L : Lns) (kv : List (Key × V)) (y : V) (o : Option Int), vs = [.ref a, y] ∧ StE K C CS S H a ta la sd Ls T L kv ∧ NumV K H y o ∧
  (belowB (T.nodes : Nat) o = false → ∀ H', Same H H' → Out U "node" H' E) ∧
  (∀ q u, o = some (T.idx q : Nat) → sub T q = some u → ∀ H' v, Same H H' → Dp K (offS S H') v (.tuple ((L q).map enD)) → Q v H')
def spLies (K : PySem.W.Frag) (C CS U : Addr) : Sp := fun vs H Q E => ∃ (a ta la sd : Addr) (S Ls : List Addr) (T : Dt) (L : Lns) (kv : List (Key × V)) (y : V) (o : Option Int), vs = [.ref a, y] ∧ StE K C CS S H a ta la sd Ls T L kv ∧ NumV K H y o ∧
  (belowB packB o = false → ∀ H', Same H H' → Out U "number" H' E) ∧
  (∀ n, o = some n → belowB packB o = true → Q ((valV kv (Sum.inl n : Key)).getD .non) H)
def spMany (K : PySem.W.Frag) (C CS : Addr) : Sp := fun vs H Q _ => ∃ (a ta la sd : Addr) (S Ls : List Addr) (T : Dt) (L : Lns) (kv : List (Key × V)), vs = [.ref a] ∧ StE K C CS S H a ta la sd Ls T L kv ∧ Q (.int (kv.length : Nat)) H
def spFormQ (K : PySem.W.Frag) (C CS : Addr) : Sp := fun vs H Q _ => ∃ (a ta la sd : Addr) (S Ls : List Addr) (T : Dt) (L : Lns) (kv : List (Key × V)), vs = [.ref a] ∧ StE K C CS S H a ta la sd Ls T L kv ∧ ∀ fv, ShV K (offS S H) fv T → Q fv H
def spGone (K : PySem.W.Frag) (C CS : Addr) : Sp := fun vs H Q _ => ∃ (a ta la sd : Addr) (S Ls : List Addr) (T : Dt) (L : Lns) (kv : List (Key × V)), vs = [.ref a] ∧ StE K C CS S H a ta la sd Ls T L kv ∧ T.ht < 20 ∧ Con T L ∧ Seat T L kv ∧ (∀ q, (L q).length ≤ 100000) ∧
  (L [] = [] → Q .non H) ∧
  (∀ (n : Int) (p : Ad) (rs : List (List Int)) (i : Nat), Dep T L n p rs → (lv T)[i]? = some p → ∀ H', GoS (sd :: Ls) H H' → StE K C CS S H' a ta la sd Ls T (cutL p L) (dropK kv (Sum.inl n : Key)) → Q (.int n) H')
section
variable {P : Program} {w : World} {K : PySem.W.Frag} {mg : Str → Option Value} {base : Heap} {C CS U fG : Addr}
end
end K65
set_option Elab.async false
set_option linter.all false
set_option maxRecDepth 100000
set_option maxHeartbeats 8000000
namespace K65
open PySem PySem.Spec PyProof.Rows L2 Dt
/-! ### events and what they give -/
inductive Evt | dep | psh (n : Int) (i : Nat) (rs : List (List Int))
def evD : Evt → PyData
  | .dep => .tuple [.str "depart"]
  | .psh n i rs => .tuple [.str "push", .int n, .int (i : Nat), .tuple (rs.map intsD)]
abbrev Gone := Option (Int × Nat × List (List Int))
inductive Step (T : Dt) : Lns → Evt → Gone → Lns → Prop
  | dep0 {L : Lns} : L [] = [] → Step T L .dep none L
  | dep {L : Lns} {n : Int} {p : Ad} {rs : List (List Int)} {i : Nat} : Dep T L n p rs → (lv T)[i]? = some p → Step T L .dep (some (n, i, rs)) (cutL p L)
  | psh {L : Lns} {n : Int} {i : Nat} {p : Ad} {rs : List (List Int)} : (lv T)[i]? = some p → rs.length = p.length + 1 → (∀ r ∈ rs, rankOf (intsD r) = true) → 0 ≤ n → n < packB → (∀ p' ∈ lv T, n ∉ its (L p')) → Step T L (.psh n i rs) none (pshL p rs n L)
inductive Run (T : Dt) : Lns → List (Evt × Gone) → Lns → Prop
  | nil {L : Lns} : Run T L [] L
  | cons {L L1 L2 : Lns} {e : Evt} {o : Gone} {es : List (Evt × Gone)} : Step T L e o L1 → Run T L1 es L2 → Run T L ((e, o) :: es) L2
theorem Run.app {T : Dt} {L L1 L2 : Lns} {a b : List (Evt × Gone)} (h : Run T L a L1) (g : Run T L1 b L2) : Run T L (a ++ b) L2 := by
  induction h with
  | nil => exact g
  | cons s r ih => exact .cons s (ih g)
theorem Run.one {T : Dt} {L L1 : Lns} {e : Evt} {o : Gone} (s : Step T L e o L1) : Run T L [(e, o)] L1 := .cons s .nil
def goneV : Evt × Gone → List V
  | (.dep, none) => [.non]
  | (.dep, some (n, _, _)) => [.int n]
  | (.psh .., _) => []
def gonesV (es : List (Evt × Gone)) : List V := es.flatMap goneV
theorem gonesV_len (es : List (Evt × Gone)) : (gonesV es).length ≤ es.length := by
  induction es with
  | nil => exact Nat.le_refl _
  | cons e es ih =>
    show (goneV e ++ gonesV es).length ≤ es.length + 1
    rw [List.length_append]
    obtain ⟨e, o⟩ := e
    cases e with
    | dep =>
      cases o with
      | none => show 1 + _ ≤ _; omega
      | some g =>
        obtain ⟨n, i, rs⟩ := g
        show 1 + _ ≤ _
        omega
    | psh n i rs => show 0 + _ ≤ _; omega
/-! ### present, same_as, packet_gone, play_events -/
def spPresent (K : PySem.W.Frag) (C CS : Addr) : Sp := fun vs H Q _ => ∃ (a ta la sd : Addr) (S Ls : List Addr) (T : Dt) (L : Lns) (kv : List (Key × V)) (ks : List Int), vs = [.ref a] ∧ StE K C CS S H a ta la sd Ls T L kv ∧ kv.map (·.1) = ks.map Sum.inl ∧ ks.length < 64 ∧
  ∀ H' p (ys : List Int), Same H H' → H p = none → ys.Perm ks → ys.Pairwise (· ≤ ·) → H' p = some (.tup (ys.map V.int)) → Q (.ref p) H'
def spSameAs (K : PySem.W.Frag) (C CS U : Addr) : Sp := fun vs H Q E => ∃ (a ta la sd : Addr) (S Ls : List Addr) (T : Dt) (L : Lns) (kv : List (Key × V)) (y : V) (g : Bool), vs = [.ref a, y] ∧ StE K C CS S H a ta la sd Ls T L kv ∧ T.ht < 20 ∧ StV K CS H y g ∧ (g = false → ∀ H', Same H H' → Out U "other" H' E) ∧
  (g = true → ∃ (a2 ta2 la2 sd2 : Addr) (S2 Ls2 : List Addr) (T2 : Dt) (L2 : Lns) (kv2 : List (Key × V)), y = .ref a2 ∧ StE K C CS S2 H a2 ta2 la2 sd2 Ls2 T2 L2 kv2 ∧ T2.ht < 20 ∧
    Q (.bl (PyData.eqv (dD T) (dD T2) && decide (lnsOf T L = lnsOf T2 L2))) H)
theorem StE.lnsL {K : PySem.W.Frag} {C CS : Addr} {S : List Addr} {H : Hp} {a ta la sd : Addr} {Ls : List Addr} {T : Dt} {L : Lns} {kv : List (Key × V)} (st : StE K C CS S H a ta la sd Ls T L kv) : Dp K H (.ref la) (lnsL T L) := by
  refine .lst (SqL.of st.lst) ?_
  have hl : Ls.length = (ad T).length := by rw [st.len, ad_len]
  have : ∀ (ls : List Addr) (qs : List Ad), ls.length = qs.length → (∀ (i : Nat) (l : Addr) (q : Ad), ls[i]? = some l → qs[i]? = some q → ∃ xs, H l = some (.lst xs) ∧ DpAll K H xs ((L q).map enD)) → DpAll K H (ls.map V.ref) (qs.map fun q => .list ((L q).map enD)) := by
    intro ls
    induction ls with
    | nil => intro qs h _; cases qs with | nil => exact .nil | cons _ _ => exact nomatch h
    | cons l ls ih =>
      intro qs h g
      cases qs with
      | nil => exact nomatch h
      | cons q qs =>
        obtain ⟨xs, h1, h2⟩ := g 0 l q rfl rfl
        exact .cons (.lst (SqL.of h1) h2) (ih qs (Nat.succ.inj h) fun i l' q' a b => g (i + 1) l' q' a b)
  have := this Ls (ad T) hl fun i l q h1 h2 => by
    obtain ⟨l', xs, g1, g2, g3⟩ := st.li q (List.mem_of_getElem? h2)
    rw [idx_of h2, h1] at g1
    obtain rfl := Option.some.inj g1
    exact ⟨xs, g2, dps_same offS_same g3⟩
  unfold lnsOf
  rw [List.map_map]
  exact this
def spPlay (K : PySem.W.Frag) (C CS U : Addr) : Sp := fun vs H Q E => ∃ (fv ev : V) (t : Dt) (d : PyData), vs = [fv, ev] ∧ DtV K H fv t ∧ t.size ≤ 100000 ∧ Dp K H ev d ∧ (∀ ds, d = .tuple ds → ds.length ≤ 1000 ∧ ∀ e ∈ ds, EvOk e) ∧ (t.good 1 = false → ∀ H', Same H H' → Out U "form" H' E) ∧
  (t.good 1 = true → t.ht ≤ 15 ∧ t.nodes ≤ 64 ∧ (evsOf t d = false → ∀ H', Same H H' → Out U "events" H' E) ∧
    (evsOf t d = true → ∃ (es : List (Evt × Gone)) (L' : Lns), d = .tuple (es.map fun e => evD e.1) ∧ es.length ≤ 90 ∧ Run t (fun _ => []) es L' ∧
      ∀ H' r tl dl a ta la sd Ls kv, Same H H' → H r = none → H' r = some (.tup [.ref tl, .ref a]) → H' tl = some (.tup (gonesV es)) → SJ K C CS (dl :: sd :: Ls) H' a ta la sd Ls t L' kv 100 → (∀ y ∈ dl :: sd :: Ls, H y = none) → H a = none → H tl = none → Q (.ref r) H'))
theorem atI_0 {xs : List V} {v : V} (h : xs[0]? = some v) : atI xs (0 : Int) = some v := atI_nat (j := 0) h
theorem atI_1 {xs : List V} {v : V} (h : xs[1]? = some v) : atI xs (1 : Int) = some v := atI_nat (j := 1) h
theorem atI_2 {xs : List V} {v : V} (h : xs[2]? = some v) : atI xs (2 : Int) = some v := atI_nat (j := 2) h
theorem atI_3 {xs : List V} {v : V} (h : xs[3]? = some v) : atI xs (3 : Int) = some v := atI_nat (j := 3) h
section
variable {P : Program} {w : World} {K : PySem.W.Frag} {mg : Str → Option Value} {base : Heap} {C CS U fG : Addr}
theorem ok_sameAs {f : Addr} {fd : FuncData} (F : Fun K "same_as" "Standing.same_as" s_Standing_same_as f fd) (T0 : Txt K mg) (SC : StCl K CS) (TC : TCl K mg C fG) (GNeedStanding : CalX P w K mg base (L2.CX P w) 4 "need_standing" ["standing", "word"] (spNeedSt K CS U)) : FnOk P w K mg base (L2.CX P w) 5 f fd ["self", "other"] (spSameAs K C CS U) := by
  refine F.okX sc_Standing_same_as (fun vs H Q E h => ?_) (fun cdv A outer s H vs Q E hr h => ?_)
  · obtain ⟨a, ta, la, sd, S, Ls, T, L, kv, y, g, rfl, _⟩ := h
    rfl
  obtain ⟨a, ta, la, sd, S, Ls, T, L, kv, y, g, rfl, st, hht, hy, q1, q2⟩ := h
  refine ⟨_, (pss_cons (ps_expr (pe_cx GNeedStanding hr (by decide) rfl (passes_call (takes_of rfl rfl rfl rfl) (fun _ _ _ _ h => h)) (pa_cons (pv 1) (pa_cons pe_str pa_nil)))) 
    (pss_one (ps_ret (pe_and (pe_cmpR (op_eqD hr.units) (pe_fld (pe_fld (pv 0) rfl) rfl) (pe_fld (pe_fld (pv 1) rfl) rfl) (nomark _)) (pe_one (pe_cmpR (op_eqD hr.units) (pe_fld (pv 0) rfl) (pe_fld (pv 1) rfl) (nomark _))))))), ?_⟩
  refine ⟨_, rfl, y, "other", g, rfl, hy, fun g1 => ?_, fun g1 => q1 g1⟩
  obtain ⟨a2, ta2, la2, sd2, S2, Ls2, T2, L2, kv2, rfl, st2, hht2, q⟩ := q2 g1
  obtain ⟨dx, hob⟩ := st.obj
  obtain ⟨dx2, hob2⟩ := st2.obj
  obtain ⟨dt, fv, LL, SS, h1, h2, h3, h4⟩ := st.tree
  obtain ⟨dt2, fv2, LL2, SS2, k1, k2, k3, k4⟩ := st2.tree
  refine ⟨_, rfl, a, CS, dx, _, _, rfl, hob, SC.cl, SC.nT, rfl, ta, C, dt, _, _, rfl, h1.ob, TC.cl, TC.nF, stF_form _ _, _, rfl, a2, CS, dx2, _, _, rfl, hob2, SC.cl, SC.nT, rfl, ta2, C, dt2, _, _, rfl, k1.ob, TC.cl, TC.nF, stF_form _ _, dD T, dD T2, shv_dp h3, shv_dp k3, (shp_dD 20 T hht).ok (by decide), (shp_dD 20 T2 hht2).ok (by decide), _, rfl, ?_⟩
  cases e : PyData.eqv (dD T) (dD T2) with
  | false =>
    rw [e] at q
    exact iteF q
  | true =>
    refine iteT ?_
    refine ⟨_, rfl, a, CS, dx, _, _, rfl, hob, SC.cl, SC.nL, rfl, _, rfl, a2, CS, dx2, _, _, rfl, hob2, SC.cl, SC.nL, rfl, lnsL T L, lnsL T2 L2, st.lnsL, st2.lnsL, (shp_lnsL (n := 0) T L).ok (by decide), (shp_lnsL (n := 0) T2 L2).ok (by decide), ?_⟩
    rw [eqv_lnsL]
    rw [e, Bool.true_and] at q
    exact q
theorem ok_gone (D : DefAt K mg "packet_gone" s_packet_gone ["standing"]) (SC : StCl K CS) (MDepart : MQ P w K mg base CS 5 "depart" ["self"] (spDepart K C CS)) : CalX P w K mg base CX0 6 "packet_gone" ["standing"] (spGone K C CS) := by
  refine D.ok sc_packet_gone (fun vs H Q E h => ?_) (fun f cdv A outer s H vs Q E hr h => ?_)
  · obtain ⟨a, ta, la, sd, S, Ls, T, L, kv, rfl, _⟩ := h
    rfl
  obtain ⟨a, ta, la, sd, S, Ls, T, L, kv, rfl, st, hht, con, se, hsz, q1, q2⟩ := h
  refine ⟨_, (pss_cons (ps_set (i := 1) sc_packet_gone.nd rfl (.inl rfl) (pe_m0 (pv 0) SC.cl MDepart hr (by decide))) 
    (pss_one (ps_ret (pe_ifExp (pt_cmpR op_isN (pv 1) pe_non (nomark _)) pe_non (pe_ix ix_tup (pv 1) pe_int (fun _ _ => rfl)))))), ?_⟩
  obtain ⟨dx, hob⟩ := st.obj
  refine ⟨_, rfl, a, dx, _, rfl, hob, rfl, a, ta, la, sd, S, Ls, T, L, kv, rfl, st, hht, con, se, hsz, fun e0 => ?_, fun n p rs i d hi H1 v g1 st1 hv hd => ?_⟩
  · exact ⟨_, rfl, rfl, _, rfl, iteT (q1 e0)⟩
  · refine ⟨_, rfl, rfl, _, rfl, iteF ?_⟩
    unfold depD at hd
    cases hd with
    | @tup b xs _ hs hx =>
    cases hx with
    | @cons v1 _ _ _ g1' _ =>
    cases g1'
    exact ⟨_, rfl, v, _, 0, _, rfl, rfl, same_sqt offS_same hs, atI_0 rfl, q2 n p rs i d hi H1 g1 st1⟩
theorem step_psh {T : Dt} {L L1 : Lns} {n : Int} {i : Nat} {rs : List (List Int)} {o : Gone} (s : Step T L (.psh n i rs) o L1) : ∃ p, o = none ∧ L1 = pshL p rs n L ∧ (lv T)[i]? = some p ∧ rs.length = p.length + 1 ∧ (∀ r ∈ rs, rankOf (intsD r) = true) ∧ 0 ≤ n ∧ n < packB ∧ (∀ p' ∈ lv T, n ∉ its (L p')) := by
  cases s with
  | psh h1 h2 h3 h4 h5 h6 => exact ⟨_, rfl, rfl, h1, h2, h3, h4, h5, h6⟩
theorem step_dep {T : Dt} {L L1 : Lns} {o : Gone} (s : Step T L .dep o L1) : (o = none ∧ L [] = [] ∧ L1 = L) ∨ ∃ n p rs i, o = some (n, i, rs) ∧ Dep T L n p rs ∧ (lv T)[i]? = some p ∧ L1 = cutL p L := by
  cases s with
  | dep0 h => exact .inl ⟨rfl, h, rfl⟩
  | dep h1 h2 => exact .inr ⟨_, _, _, _, rfl, h1, h2, rfl⟩
theorem run_cons {T : Dt} {L L2 : Lns} {e : Evt × Gone} {es : List (Evt × Gone)} (r : Run T L (e :: es) L2) : ∃ L1, Step T L e.1 e.2 L1 ∧ Run T L1 es L2 := by
  cases r with
  | cons s r => exact ⟨_, s, r⟩
theorem ok_play {fS : Addr} {fdS : FuncData} (D : DefAt K mg "play_events" s_play_events ["form", "events"]) (T0 : Txt K mg) (SC : StCl K CS) (MS : Mk K CS fS) (gS : mg "Standing" = some (.ref CS)) (bS : Binds K fdS ["self", "form"] []) (FS : FnOk P w K mg base CX0 24 fS fdS ["self", "form"] (spMadeQ K C CS))
    (GShapeTree : CalX P w K mg base (L2.CX P w) 23 "shape_tree" ["form", "word"] (spShapeTree K C U)) (GNeed : CalX P w K mg base (L2.CX P w) 3 "need" ["fits", "word"] (spNeed U)) (GAreEvents : CalX P w K mg base CX0 6 "are_events" ["tree", "thing"] (spEvents K C)) (GPacketGone : CalX P w K mg base CX0 6 "packet_gone" ["standing"] (spGone K C CS))
    (MPush : MQ P w K mg base CS 5 "push" ["self", "number", "queue", "ranks"] (spPushQ K C CS)) : CalX P w K mg base (L2.CX P w) 26 "play_events" ["form", "events"] (spPlay K C CS U) := by
  refine D.okX sc_play_events (fun vs H Q E h => ?_) (fun f cdv A outer s H vs Q E hr h => ?_)
  · obtain ⟨fv, ev, t, d, rfl, _⟩ := h
    rfl
  obtain ⟨fv, ev, t, d, rfl, hfv, hsz, hev, hok, q1, q2⟩ := h
  refine ⟨_, (pss_cons (ps_expr (pe_cx GNeed hr (by decide) rfl (passes_call (takes_of rfl rfl rfl rfl) (fun _ _ _ _ h => h)) (pa_cons (pe_c0 GAreEvents hr (by decide) rfl (pa_cons (pe_cx GShapeTree hr (by decide) rfl (passes_call (takes_of rfl rfl rfl rfl) (fun _ _ _ _ h => h)) (pa_cons (pv 0) (pa_cons pe_str pa_nil))) (pa_cons (pv 1) pa_nil))) (pa_cons pe_str pa_nil)))) 
    (pss_cons (ps_set (i := 2) sc_play_events.nd rfl (.inl rfl) (pe_make MS FS (hr.mono (by decide)) rfl gS bS .nil pass0 (pa_cons (pv 0) pa_nil))) 
    (pss_cons (ps_set (i := 3) sc_play_events.nd rfl (.inl rfl) (pe_lst pa_nil)) 
    (pss_cons (ps_for (passes_of rfl) rfl (pi_tup (pv 1)) (pg_name (i := 4) sc_play_events.nd rfl (Or.inl rfl)) 
      (pss_one (ps_if (pt_cmpR op_eq (pe_ix ix_tup (pv 4) pe_int (fun _ _ => rfl)) pe_str (nomark _)) 
        (pss_one (ps_expr (pe_m1 (pv 2) SC.cl MPush hr (by decide) (pa_cons (pe_ix ix_tup (pv 4) pe_int (fun _ _ => rfl)) (pa_cons (pe_ix ix_tup (pv 4) pe_int (fun _ _ => rfl)) (pa_cons (pe_ix ix_tup (pv 4) pe_int (fun _ _ => rfl)) pa_nil)))))) 
        (pss_one (ps_expr (pe_bm PySem.F.plainAttrs_list PySem.F.slot_list_append PySem.F.type_list_append mt_append (pv 3) (pa_cons (pe_c0 GPacketGone hr (by decide) rfl (pa_cons (pv 2) pa_nil)) pa_nil))))))) 
    (pss_one (ps_ret (pe_tup (pa_cons (pe_callTy call_tuple_of (by rfl) T0.tuple PyProof.Rows.boot_tuple (pa_cons (pv 3) pa_nil)) (pa_cons (pv 2) pa_nil))))))))), ?_⟩
  have hsl := sizeLine_eq
  refine ⟨_, rfl, fv, t, "form", rfl, hfv, hsz, fun g => ?_, fun g H1 s1 => q1 g H1 s1⟩
  obtain ⟨hht, hnd, q3, q4⟩ := q2 g
  refine ⟨by omega, by omega, fun ta0 H1 _ s1 tn0 hta0 tr0 => ?_⟩
  refine ⟨_, rfl, ta0, ev, t, d, rfl, tr0, dp_same s1 hev, hok, fun H2 s2 => ⟨_, "events", rfl, fun eb => ?_, fun eb => q3 eb H2 (s1.trans s2)⟩⟩
  obtain ⟨es, L', rfl, hel, run, q5⟩ := q4 eb
  have s12 := s1.trans s2
  refine ⟨_, rfl, fun a dx ha hdx hne => ?_⟩
  have s0 : Same H2 (upd (upd H2 dx (.own a)) a (.ins CS dx [])) := fun y o h => by rw [upd_ne (ne_of_none h ha), upd_ne (ne_of_none h hdx)]; exact h
  refine ⟨a, dx, fv, t, rfl, upd_same, same_dtv (s12.trans s0) hfv, hsz, g, by omega, by omega, fun H3 ta la sd Ls st tn fr fresh => ⟨rfl, ?_⟩⟩
  have s3 : Same H2 H3 := fun y o h => fr y o (s0 y o h) (ne_of_none h ha)
  have fresh2 : ∀ y ∈ sd :: Ls, H2 y = none := fun y hy => s0.free (fresh y hy)
  have s03 := s12.trans s3
  refine ⟨(by show 0 ≤ sizeLine; decide), fun dl hdl => ?_⟩
  have hdl0 := s03.free hdl
  have sj3 : SJ K C CS (sd :: Ls) H3 a ta la sd Ls t (fun _ => []) [] 0 := ⟨st, ⟨(fun q w _ _ e h => nomatch h), fun q w j _ _ => rfl⟩, ⟨(fun n i p _ h => nomatch h), (fun k v h => nomatch h), fun p _ => List.Pairwise.nil⟩, g, by omega, by omega, hsz, (fun q => Nat.le_refl _), by decide, Nat.zero_le _⟩
  have hdlS : dl ∉ sd :: Ls := fun z => by
    have := sj3.st.al dl z
    exact this hdl
  have s3d : Same H3 (upd H3 dl (.lst [])) := same_new hdl
  have sj3d : SJ K C CS (dl :: sd :: Ls) (upd H3 dl (.lst [])) a ta la sd Ls t (fun _ => []) [] 0 := ⟨sj3.st.grow (N := [dl]) s3d (fun y hy => by rw [List.mem_singleton.mp hy]; exact hdl) (fun y hy => by rw [List.mem_singleton.mp hy, upd_same]; exact fun z => nomatch z), sj3.con, sj3.se, sj3.gd, sj3.ht, sj3.nd, sj3.sm, sj3.sz, sj3.m9, sj3.kz⟩
  cases hev with
  | @tup eb' evs _ heb hevs =>
  have hevl := dps_len hevs
  rw [List.length_map] at hevl
  have heb3 := same_sqt s03 heb
  have hevs3 := dps_same s03 hevs
  -- the events are tuples, whose places do not change
  have hebS : ∀ {b : Addr} {zs : List V}, SqT K H b zs → ∀ {H'}, GoS (dl :: sd :: Ls) H3 H' → SqT K H' b zs := fun {b zs} h {H'} gg => by
    have hk : ∀ {o}, H b = some o → H' b = some o := fun {o} e => by
      refine gg.at (s03 _ _ e) fun z => ?_
      rcases List.mem_cons.mp z with z | z
      · rw [z, hdl0] at e
        exact nomatch e
      · rw [s12.free (fresh2 b z)] at e
        exact nomatch e
    rcases h with (h | ⟨o, h⟩) | h
    · exact .inl (.inl (hk h))
    · exact .inl (.inr ⟨o, hk h⟩)
    · exact .inr h
  have offE : ∀ {H'}, GoS (dl :: sd :: Ls) H3 H' → ∀ y o, H y = some o → offS (dl :: sd :: Ls) H' y = some o := fun {H'} gg y o e => by
    have n1 : y ∉ dl :: sd :: Ls := fun z => by
      rcases List.mem_cons.mp z with z | z
      · rw [z, hdl0] at e
        exact nomatch e
      · rw [s12.free (fresh2 y z)] at e
        exact nomatch e
    rw [offS_ne n1]
    exact gg.at (s03 _ _ e) n1
  refine ⟨_, rfl, eb', rfl, ⟨_, same_sqt (same_new hdl) heb3⟩, ?_⟩
  refine for_tup (K := K) (a := eb') (xs := evs) (fun i σ H' => ∃ (Lc : Lns) (kv : List (Key × V)) (o4 : Option V), σ = [some fv, some (.ref eb'), some (.ref a), some (.ref dl), o4] ∧ GoS (dl :: sd :: Ls) H3 H' ∧ H' dl = some (.lst (gonesV (es.take i))) ∧ SJ K C CS (dl :: sd :: Ls) H' a ta la sd Ls t Lc kv i ∧ Run t Lc (es.drop i) L')
    ⟨_, _, _, rfl, (GoS.of (same_new hdl)), upd_same, sj3d, run⟩ (fun i σ H' _ ⟨_, _, _, _, gg, _⟩ => hebS heb gg) ?_ ?_
  · rintro i x σ H4 hx ⟨Lc, kv, o4, rfl, g4, hd4, sj4, run4⟩
    have hil := (List.getElem?_eq_some_iff.mp hx).1
    rw [hevl] at hil
    have ee : es.drop i = es[i] :: es.drop (i + 1) := List.drop_eq_getElem_cons hil
    have etk : es.take (i + 1) = es.take i ++ [es[i]] := List.take_succ_eq_append_getElem hil
    obtain ⟨dx0, hx1, hx2⟩ := dps_at hevs hx
    rw [List.getElem?_map, List.getElem?_eq_getElem hil] at hx1
    obtain rfl := Option.some.inj hx1
    rw [ee] at run4
    generalize es[i] = e at ee etk run4 hx2
    obtain ⟨L1, st1, run5⟩ := run_cons run4
    obtain ⟨e, o⟩ := e
    have egon : gonesV (es.take (i + 1)) = gonesV (es.take i) ++ goneV (e, o) := by
      rw [etk]
      unfold gonesV
      rw [List.flatMap_append]
      simp
    have hgl := gonesV_len (es.take i)
    rw [List.length_take] at hgl
    have sub2 : ∀ y ∈ sd :: Ls, y ∈ dl :: sd :: Ls := fun y hy => List.mem_cons_of_mem _ hy
    obtain ⟨dx4, hob4⟩ := sj4.st.obj
    cases e with
    | psh n qi rs =>
      obtain ⟨p, rfl, rfl, hp, hrl, hrk, n0, n1, hfr⟩ := step_psh st1
      have hx2' : Dp K H x (.tuple [.str "push", .int n, .int (qi : Nat), .tuple (rs.map intsD)]) := hx2
      cases hx2' with
      | @tup xb xs2 _ hxb hxs =>
      cases hxs with
      | @cons v1 _ _ _ e1 hxs =>
      cases hxs with
      | @cons v2 _ _ _ e2 hxs =>
      cases hxs with
      | @cons v3 _ _ _ e3 hxs =>
      cases hxs with
      | @cons v4 _ _ _ e4 hxs =>
      cases hxs
      cases e1
      cases e2
      cases e3
      have hxb4 := hebS hxb g4
      refine ⟨_, rfl, xb, _, 0, _, rfl, rfl, hxb4, atI_0 rfl, rfl, _, rfl, ?_⟩
      refine ite2 (fun _ => ?_) (fun c => absurd (decide_eq_true rfl) c)
      refine ⟨_, rfl, a, dx4, _, rfl, hob4, rfl, _, rfl, xb, _, 1, _, rfl, rfl, hxb4, atI_1 rfl, _, rfl, xb, _, 2, _, rfl, rfl, hxb4, atI_2 rfl, _, rfl, xb, _, 3, _, rfl, rfl, hxb4, atI_3 rfl, ?_⟩
      refine ⟨a, ta, la, sd, _, Ls, t, Lc, kv, n, qi, p, v4, rs, rfl, sj4.st, sj4.ht20, seat_absent sj4.se hfr, n0, n1, hp, dp_same (offE g4) e4, hrl, hrk, sj4.sz', by have := sj4.kz; omega, fun H5 g5 st5 => ?_⟩
      refine ⟨_, _, _, rfl, g4.trans (g5.wide sub2), ?_, sj4.psh hp (seat_absent sj4.se hfr) (by omega) st5, run5⟩
      rw [egon]
      show _ = some (HO.lst (_ ++ []))
      rw [List.append_nil]
      exact g5.at hd4 hdlS
    | dep =>
      have hx2' : Dp K H x (.tuple [.str "depart"]) := hx2
      cases hx2' with
      | @tup xb xs2 _ hxb hxs =>
      cases hxs with
      | @cons v1 _ _ _ e1 hxs =>
      cases hxs
      cases e1
      have hxb4 := hebS hxb g4
      refine ⟨_, rfl, xb, _, 0, _, rfl, rfl, hxb4, atI_0 rfl, rfl, _, rfl, ?_⟩
      refine ite2 (fun c => ?_) (fun _ => ?_)
      · exact absurd (of_decide_eq_true c) (by decide +kernel)
      refine ⟨_, rfl, .inl ⟨rfl, _, SqL.of hd4⟩, _, rfl, a, ta, la, sd, _, Ls, t, Lc, kv, rfl, sj4.st, sj4.ht20, sj4.con, sj4.se, sj4.sz', fun he0 => ?_, fun n p rs qi dd hqi H5 g5 st5 => ?_⟩
      · rcases step_dep st1 with ⟨rfl, _, rfl⟩ | ⟨n, p, rs, qi, _, dd, _⟩
        · refine ⟨dl, _, _, rfl, rfl, hd4, small1000 (by omega), ?_⟩
          refine ⟨_, _, _, rfl, g4.upd (List.mem_cons_self ..), ?_, (sj4.keep (GoS.refl.upd (List.mem_singleton.mpr rfl) : GoS [dl] H4 _) (fun y hy => by rw [List.mem_singleton.mp hy]; exact List.mem_cons_self ..) (fun y hy => by rw [List.mem_singleton.mp hy]; exact hdlS)).mono (Nat.le_succ _) (by omega), run5⟩
          rw [egon]
          exact upd_same
        · exact absurd he0 (dep_ne dd)
      · rcases step_dep st1 with ⟨_, he0, _⟩ | ⟨n', p', rs', qi', rfl, dd', hqi', rfl⟩
        · exact absurd he0 (dep_ne dd)
        · obtain ⟨rfl, rfl, rfl⟩ := dep_det _ _ _ _ _ _ _ _ dd dd'
          have hd5 := g5.at hd4 hdlS
          have sj5 := sj4.cut dd st5
          refine ⟨dl, _, _, rfl, rfl, hd5, small1000 (by omega), ?_⟩
          refine ⟨_, _, _, rfl, (g4.trans (g5.wide sub2)).upd (List.mem_cons_self ..), ?_, (sj5.keep (GoS.refl.upd (List.mem_singleton.mpr rfl) : GoS [dl] H5 _) (fun y hy => by rw [List.mem_singleton.mp hy]; exact List.mem_cons_self ..) (fun y hy => by rw [List.mem_singleton.mp hy]; exact hdlS)).mono (Nat.le_succ _) (by omega), run5⟩
          rw [egon]
          exact upd_same
  · rintro σ H4 ⟨Lc, kv, o4, rfl, g4, hd4, sj4, run4⟩
    rw [hevl, List.drop_length] at run4
    rw [hevl, List.take_length] at hd4
    cases run4
    have hgl := gonesV_len es
    refine ⟨_, rfl, dl, _, rfl, .inl ⟨SqL.of hd4, fun tl htl => ⟨_, rfl, (by show 2 ≤ sizeLine; decide), fun r hr => ?_⟩⟩⟩
    have s5 : Same H4 (upd H4 tl (.tup (gonesV es))) := same_new htl
    have s6 := s5.trans (same_new (o := .tup [.ref tl, .ref a]) hr)
    have hfr : ∀ {y}, H4 y = none → H y = none := fun {y} h => s03.free (g4.free h)
    have all : Same H (upd (upd H4 tl (.tup (gonesV es))) r (.tup [.ref tl, .ref a])) := fun y o e => s6 _ _ (by
      have := offE g4 y o e
      exact (offS_some this).2)
    refine q5 _ r tl dl a ta la sd Ls _ all (hfr (s5.free hr)) upd_same ((same_new hr) _ _ upd_same) ((sj4.same s6).mono (by omega) (by decide)) (fun y hy => ?_) (s12.free ha) (hfr htl)
    rcases List.mem_cons.mp hy with z | z
    · rw [z]; exact hdl0
    · exact s12.free (fresh2 y z)
end
end K65
set_option Elab.async false
set_option linter.all false
set_option maxRecDepth 100000
set_option maxHeartbeats 8000000
namespace K65
open PySem PySem.Spec PyProof.Rows L2 Dt
theorem below_idx {T u : Dt} {q : Ad} (h : sub T q = some u) : belowB (T.nodes : Nat) (some (T.idx q : Nat)) = true := by
  have h1 := idx_lt h
  have h2 := nodes_pos u
  show (decide ((0 : Int) ≤ (T.idx q : Nat)) && decide (((T.idx q : Nat) : Int) < (T.nodes : Nat))) = true
  rw [decide_eq_true (by omega), decide_eq_true (by omega)]
  rfl
theorem idx_sub {T u u' : Dt} {q q' : Ad} (h : sub T q = some u) (h' : sub T q' = some u') (e : (some ((T.idx q : Nat) : Int)) = some ((T.idx q' : Nat) : Int)) : q' = q ∧ u' = u := by
  have e2 : T.idx q = T.idx q' := by
    injection e with e
    omega
  have := idx_inj (sub_ad h) (sub_ad h') e2
  subst this
  rw [h] at h'
  exact ⟨rfl, (Option.some.inj h').symm⟩
structure Dist (T : Dt) (L : Lns) : Prop where
  nd : ∀ p ∈ lv T, (its (L p)).Nodup
  un : ∀ p p' n, p ∈ lv T → p' ∈ lv T → n ∈ its (L p) → n ∈ its (L p') → p = p'
theorem Seat.dist {T : Dt} {L : Lns} {kv : List (Key × V)} (s : Seat T L kv) : Dist T L := ⟨s.nd, fun p p' n h h' hn hn' => by
  obtain ⟨i, hi⟩ := List.mem_iff_getElem?.mp h
  obtain ⟨i', hi'⟩ := List.mem_iff_getElem?.mp h'
  have a := s.to n i p hi hn
  rw [s.to n i' p' hi' hn'] at a
  have e : i' = i := by
    injection a with a
    injection a with a
    omega
  subst e
  exact lv_inj hi hi'⟩
theorem valV_mem {kvs : List (Key × V)} {k : Key} {v : V} (h : valV kvs k = some v) : (k, v) ∈ kvs := by
  unfold valV at h
  obtain ⟨e, h1, h2⟩ := Option.map_eq_some_iff.mp h
  have h3 := List.find?_some h1
  have h4 : e.1 = k := of_decide_eq_true h3
  subst h4
  subst h2
  exact List.mem_of_find?_eq_some h1
def kvS (T : Dt) (L : Lns) : List (Key × V) := (List.range T.lf).flatMap fun i => (its (L ((lv T).getD i []))).map fun n => ((Sum.inl n : Key), V.int (i : Nat))
theorem kvS_mem {T : Dt} {L : Lns} {k : Key} {v : V} : (k, v) ∈ kvS T L ↔ ∃ n i p, k = Sum.inl n ∧ v = .int (i : Nat) ∧ (lv T)[i]? = some p ∧ n ∈ its (L p) := by
  unfold kvS
  rw [List.mem_flatMap]
  constructor
  · rintro ⟨i, hi, h⟩
    obtain ⟨n, hn, e⟩ := List.mem_map.mp h
    have hl : i < (lv T).length := List.mem_range.mp hi
    have hx : (lv T)[i]? = some (lv T)[i] := List.getElem?_eq_getElem hl
    rw [List.getD_eq_getElem?_getD, hx] at hn
    injection e with e1 e2
    exact ⟨n, i, _, e1.symm, e2.symm, hx, hn⟩
  · rintro ⟨n, i, p, rfl, rfl, hp, hn⟩
    refine ⟨i, List.mem_range.mpr (List.getElem?_eq_some_iff.mp hp).1, List.mem_map.mpr ⟨n, ?_, rfl⟩⟩
    rw [List.getD_eq_getElem?_getD, hp]
    exact hn
theorem seat_ex {T : Dt} {L : Lns} (d : Dist T L) : Seat T L (kvS T L) := by
  refine ⟨fun n i p hp hn => ?_, fun k v h => kvS_mem.mp (valV_mem h), d.nd⟩
  obtain ⟨v, hv⟩ := valV_some (kvS_mem.mpr ⟨n, i, p, rfl, rfl, hp, hn⟩ : ((Sum.inl n : Key), V.int (i : Nat)) ∈ kvS T L)
  obtain ⟨n', i', p', e1, rfl, hp', hn'⟩ := kvS_mem.mp (valV_mem hv)
  injection e1 with e1
  subst e1
  obtain rfl := d.un p p' n (List.mem_of_getElem? hp) (List.mem_of_getElem? hp') hn hn'
  rw [lv_i hp hp']
  rw [lv_i hp hp'] at hv
  exact hv
theorem lv_sub {T u : Dt} {q p : Ad} (hu : sub T q = some u) (hp : p ∈ lv u) : q ++ p ∈ lv T := by
  obtain ⟨w, h1, h2⟩ := lv_lf hp
  have h3 : sub T (q ++ p) = some w := by rw [(sub_app T q u hu p).1]; exact h1
  exact List.mem_filter.mpr ⟨sub_ad h3, by rw [isLf_o h3, h2]; rfl⟩
theorem Dist.at {T u : Dt} {L : Lns} {q : Ad} (d : Dist T L) (hu : sub T q = some u) : Dist u (at_ q L) :=
  ⟨fun p hp => d.nd _ (lv_sub hu hp), fun p p' n h h' hn hn' => List.append_cancel_left (d.un _ _ n (lv_sub hu h) (lv_sub hu h') hn hn')⟩
theorem good_parts {T : Dt} (h : T.good 1 = true) : T.len ≤ 6 ∧ ∀ k ∈ T.kids, k.good 1 = true := by
  unfold Dt.good Dt.here at h
  rw [kids_good, Bool.and_eq_true, Bool.and_eq_true, Bool.and_eq_true, List.all_eq_true] at h
  exact ⟨of_decide_eq_true h.1.1.2, h.2⟩
theorem good_sub {T u : Dt} : ∀ {q : Ad}, sub T q = some u → T.good 1 = true → u.good 1 = true := by
  intro q
  induction q generalizing T with
  | nil =>
    intro h g
    rw [sub_nil] at h
    obtain rfl := Option.some.inj h
    exact g
  | cons j q ih =>
    intro h g
    obtain ⟨k, hk, hu⟩ := sub_len h
    exact ih hu ((good_parts g).2 k (List.mem_of_getElem? hk))
theorem lns_at {T u : Dt} {L : Lns} {kv : List (Key × V)} {q : Ad} (ok : LnsOK T L kv) (hu : sub T q = some u) (hs : u.size ≤ 100000) : LnsOK u (at_ q L) (kvS u (at_ q L)) :=
  ⟨fun r => ok.rk _, fun r => ok.pw _, seat_ex (ok.se.dist.at hu), fun r => ok.sz _, good_sub hu ok.gd, Nat.lt_of_le_of_lt (ht_le hu) ok.ht, hs⟩
def spBough (K : PySem.W.Frag) (C CS U : Addr) : Sp := fun vs H Q E => ∃ (x y : V) (g : Bool), vs = [x, y] ∧ StV K CS H x g ∧ (g = false → ∀ H', Same H H' → Out U "standing" H' E) ∧
  (g = true → ∃ (a ta la sd : Addr) (S Ls : List Addr) (T : Dt) (L : Lns) (kv : List (Key × V)) (o : Option Int), x = .ref a ∧ StE K C CS S H a ta la sd Ls T L kv ∧ LnsOK T L kv ∧ NumV K H y o ∧
    (belowB (T.nodes : Nat) o = false → ∀ H', Same H H' → Out U "node" H' E) ∧
    (∀ q u, o = some (T.idx q : Nat) → sub T q = some u → u.size ≤ 100000 ∧ ∀ H' a' ta' la' sd' Ls' kv', Same H H' → StE K C CS (sd' :: Ls') H' a' ta' la' sd' Ls' u (at_ q L) kv' → Seat u (at_ q L) kv' → kv'.length ≤ 100000 → (∀ y ∈ sd' :: Ls', H y = none) → H a' = none → TN K H (offS (sd' :: Ls') H') C ta' u ∧ H la' = none → Q (.ref a') H'))
section
variable {P : Program} {w : World} {K : PySem.W.Frag} {mg : Str → Option Value} {base : Heap} {C CS U fG : Addr}
theorem ok_bough (D : DefAt K mg "bough_standing" s_bough_standing ["standing", "node"]) (SC : StCl K CS) (TC : TCl K mg C fG) (GNeedStanding : CalX P w K mg base (L2.CX P w) 4 "need_standing" ["standing", "word"] (spNeedSt K CS U)) (GNeedNode : CalX P w K mg base (L2.CX P w) 4 "need_node" ["tree", "node", "word"] (spNeedNode K C U))
    (GStandingWith : CalX P w K mg base (L2.CX P w) 26 "standing_with" ["form", "lines"] (spWith K C CS)) : CalX P w K mg base (L2.CX P w) 27 "bough_standing" ["standing", "node"] (spBough K C CS U) := by
  refine D.okX sc_bough_standing (fun vs H Q E h => ?_) (fun f cdv A outer s H vs Q E hr h => ?_)
  · obtain ⟨x, y, g, rfl, _⟩ := h
    rfl
  obtain ⟨x, y, g, rfl, hx, q1, q2⟩ := h
  refine ⟨_, (pss_cons (ps_expr (pe_cx GNeedStanding hr (by decide) rfl (passes_call (takes_of rfl rfl rfl rfl) (fun _ _ _ _ h => h)) (pa_cons (pv 0) (pa_cons pe_str pa_nil)))) 
    (pss_cons (ps_set (i := 2) sc_bough_standing.nd rfl (.inl rfl) (pe_fld (pv 0) rfl)) 
    (pss_cons (ps_expr (pe_cx GNeedNode hr (by decide) rfl (passes_call (takes_of rfl rfl rfl rfl) (fun _ _ _ _ h => h)) (pa_cons (pv 2) (pa_cons (pv 1) (pa_cons pe_str pa_nil))))) 
    (pss_one (ps_ret (pe_cx GStandingWith hr (by decide) rfl (passes_call (takes_of rfl rfl rfl rfl) (fun _ _ _ _ h => h)) (pa_cons (pe_ix ix_list (pe_fld (pv 2) rfl) (pv 1) (fun _ _ => rfl)) (pa_cons (pe_slice sl_list (pe_fld (pv 0) rfl) (po_some (pv 1)) (po_some (pe_ix ix_list (pe_fld (pv 2) rfl) (pv 1) (fun _ _ => rfl)))) pa_nil)))))))), ?_⟩
  refine ⟨_, rfl, x, "standing", g, rfl, hx, fun g1 => ?_, fun g1 => q1 g1⟩
  obtain ⟨a, ta, la, sd, S, Ls, T, L, kv, z0, rfl, st, ok, hy, q3, q4⟩ := q2 g1
  obtain ⟨dx, hob⟩ := st.obj
  obtain ⟨dt, fv, LL, SS, h1, h2, h3, h4⟩ := st.tree
  refine ⟨_, rfl, a, CS, dx, _, _, rfl, hob, SC.cl, SC.nT, rfl, ?_⟩
  refine ⟨_, rfl, _, rfl, ta, y, z0, T, "node", rfl, st.tree, hy, fun hB => ?_, fun hB => q3 hB H (fun _ _ z => z)⟩
  obtain ⟨q, hq, rfl⟩ := below_ad hB
  obtain rfl : y = .int (T.idx q : Nat) := hy
  obtain ⟨u, hu⟩ := ad_sub hq
  obtain ⟨hus, q5⟩ := q4 q u rfl hu
  obtain ⟨v0, e0, u0, hu0, hsh⟩ := h2.node (k := 0) (by decide) hq
  rw [hu] at hu0
  obtain rfl := Option.some.inj hu0
  obtain ⟨v7, e7, u7, hu7, rfl⟩ := h2.node (k := 7) (by decide) hq
  rw [hu] at hu7
  obtain rfl := Option.some.inj hu7
  have hi := idx_lt hu
  have hsl := sizeLine_eq
  refine ⟨_, rfl, ta, C, dt, _, _, rfl, h1.ob, TC.cl, TC.n0, stF_0 _ _, _, rfl, LL 0, _, _, _, rfl, rfl, SqL.of (h1.ls 0 (by decide)), e0, ?_⟩
  refine ⟨_, rfl, a, CS, dx, _, _, rfl, hob, SC.cl, SC.nL, rfl, _, rfl, _, rfl, _, rfl, ta, C, dt, _, _, rfl, h1.ob, TC.cl, TC.n7, stF_7 _ _, _, rfl, LL 7, _, _, _, rfl, rfl, SqL.of (h1.ls 7 (by decide)), e7, ?_⟩
  refine ⟨_, rfl, la, _, rfl, SqL.of st.lst, fun l hl => ?_⟩
  have hLl : Ls.length = T.nodes := st.len
  rw [cut_mid _ (by rw [List.length_map]; omega) (by rw [List.length_map]; omega), ← List.map_drop, ← List.map_take, Nat.add_sub_cancel_left]
  have s1 : Same H (upd H l (.lst (((Ls.drop (T.idx q)).take u.nodes).map V.ref))) := same_new hl
  have hll : ((Ls.drop (T.idx q)).take u.nodes).length = u.nodes := by rw [List.length_take, List.length_drop]; omega
  refine ⟨l, v0, (Ls.drop (T.idx q)).take u.nodes, u, at_ q L, kvS u (at_ q L), rfl, hsh.keep (KeepT.of_same s1), by omega, upd_same, hll, fun r hr => ?_, lns_at ok hu hus, fun H' a' ta' la' sd' Ls' kv' s2 st' se' hkv fr ha' tn => ?_⟩
  · obtain ⟨v, hv⟩ := ad_sub hr
    obtain ⟨es, ei⟩ := sub_app T q u hu r
    have hv' : sub T (q ++ r) = some v := by rw [es]; exact hv
    obtain ⟨m, xs, z1, z2, z3⟩ := st.li _ (sub_ad hv')
    have hri := idx_lt hv
    have hvp := v.nodes_pos
    refine ⟨m, xs, ?_, s1 _ _ z2, dps_same s1 (dps_same offS_same z3)⟩
    rw [List.getElem?_take_of_lt (by omega), List.getElem?_drop, ← ei]
    exact z1
  · exact q5 H' a' ta' la' sd' Ls' kv' (s1.trans s2) st' se' hkv (fun y hy => s1.free (fr y hy)) (s1.free ha') ⟨tn.1.from fun y e => s1.free e, s1.free tn.2⟩
end
end K65
set_option Elab.async false
set_option linter.all false
set_option maxRecDepth 100000
set_option maxHeartbeats 8000000
namespace K65
open PySem PySem.Spec PyProof.Rows L2 Dt
/-! ### what happens in a bough: mathematics -/
theorem dpn {K : PySem.W.Frag} {S : List Addr} {H : Hp} {p : Addr} {xs : List V} {ds : List PyData} (hin : InD S H) (hp : H p = none) (h : DpAll K (offS S H) xs ds) : Dp K (offS S (upd H p (.tup xs))) (.ref p) (.tuple ds) := .tup (sqt_offS upd_same (hin.new hp)) (dps_same (GoD.of (same_new hp)) h)
theorem GoS.d {S M : List Addr} {H H' : Hp} (g : GoS M H H') (h : ∀ y ∈ M, y ∈ S) : GoD S H H' := (g.wide h).s

theorem lv_in {T u : Dt} {q p : Ad} {i : Nat} (hu : sub T q = some u) (hp : (lv T)[i]? = some p) : (T.low q ≤ i ∧ i < T.low q + u.lf) ↔ q <+: p := by
  obtain ⟨A, B, e, hl, _, oA, oB⟩ := lv_block hu
  have hm : ((lv u).map (q ++ ·)).length = u.lf := by rw [List.length_map]; rfl
  rw [e] at hp
  by_cases c : i < A.length
  · rw [List.getElem?_append_left c] at hp
    have := oA p (List.mem_of_getElem? hp)
    exact ⟨fun h => by omega, fun h => absurd h this⟩
  · rw [List.getElem?_append_right (by omega)] at hp
    by_cases c2 : i - A.length < ((lv u).map (q ++ ·)).length
    · rw [List.getElem?_append_left c2, List.getElem?_map] at hp
      obtain ⟨p', _, rfl⟩ := Option.map_eq_some_iff.mp hp
      exact ⟨fun _ => ⟨p', rfl⟩, fun _ => ⟨by omega, by omega⟩⟩
    · rw [List.getElem?_append_right (by omega)] at hp
      have := oB p (List.mem_of_getElem? hp)
      exact ⟨fun h => by omega, fun h => absurd h this⟩
theorem lv_at {T u : Dt} {q p : Ad} {i : Nat} (hu : sub T q = some u) (hp : (lv T)[i]? = some (q ++ p)) : (lv u)[i - T.low q]? = some p := by
  have hin := (lv_in hu hp).mpr ⟨p, rfl⟩
  obtain ⟨A, B, e, hl, _, oA, oB⟩ := lv_block hu
  have hm : ((lv u).map (q ++ ·)).length = u.lf := by rw [List.length_map]; rfl
  rw [e, List.getElem?_append_right (by omega), List.getElem?_append_left (by omega), List.getElem?_map] at hp
  obtain ⟨p', h1, h2⟩ := Option.map_eq_some_iff.mp hp
  rw [← hl, h1, List.append_cancel_left h2]
theorem take_add_app (q p : Ad) (k : Nat) : (q ++ p).take (q.length + k) = q ++ p.take k := by
  rw [List.take_append]
  rw [List.take_of_length_le (by omega)]
  congr 2
  omega
theorem getE_app (q p : Ad) (k : Nat) : (q ++ p)[q.length + k]? = p[k]? := by
  rw [List.getElem?_append_right (by omega)]
  congr 1
  omega
theorem itm_app (q p : Ad) (n : Int) (k : Nat) : itm (q ++ p) n (q.length + k) = itm p n k := by
  unfold itm
  rw [getE_app]
theorem Dep.at {T u : Dt} {L : Lns} {n : Int} {q p : Ad} {rs : List (List Int)} (d : Dep T L n (q ++ p) rs) (hu : sub T q = some u) : Dep u (at_ q L) n p (rs.drop q.length) := by
  obtain ⟨⟨w, h1, h2⟩, h3, ⟨r, t, h4, h5⟩, h6⟩ := d
  refine ⟨⟨w, by rw [← (sub_app T q u hu p).1]; exact h1, h2⟩, fun k j hk => ?_, ⟨r, t, h4, ?_⟩, ?_⟩
  · obtain ⟨r', t', e1, e2⟩ := h3 (q.length + k) j (by rw [getE_app]; exact hk)
    refine ⟨r', t', ?_, by rw [List.getElem?_drop]; exact e2⟩
    rw [take_add_app] at e1
    exact e1
  · rw [List.getElem?_drop]
    rw [List.length_append] at h5
    exact h5
  · rw [List.length_drop, h6, List.length_append]
    omega
theorem at_cut (q p : Ad) (L : Lns) : at_ q (cutL (q ++ p) L) = cutL p (at_ q L) := by
  funext r
  unfold at_ cutL
  by_cases c : r <+: p
  · rw [if_pos c, if_pos ((List.prefix_append_right_inj q).mpr c)]
  · rw [if_neg c, if_neg fun z => c ((List.prefix_append_right_inj q).mp z)]
theorem at_cut_off {q p : Ad} (h : ¬ q <+: p) (L : Lns) : at_ q (cutL p L) = at_ q L := by
  funext r
  unfold at_ cutL
  rw [if_neg fun z => h ((List.prefix_append q r).trans z)]
theorem at_psh (q p : Ad) (rs : List (List Int)) (n : Int) (L : Lns) : at_ q (pshL (q ++ p) rs n L) = pshL p (rs.drop q.length) n (at_ q L) := by
  funext r
  unfold at_ pshL
  by_cases c : r <+: p
  · rw [if_pos c, if_pos ((List.prefix_append_right_inj q).mpr c), List.length_append, itm_app]
    congr 2
    rw [List.getD_eq_getElem?_getD, List.getD_eq_getElem?_getD, List.getElem?_drop]
  · rw [if_neg c, if_neg fun z => c ((List.prefix_append_right_inj q).mp z)]
theorem at_psh_off {q p : Ad} (h : ¬ q <+: p) (rs : List (List Int)) (n : Int) (L : Lns) : at_ q (pshL p rs n L) = at_ q L := by
  funext r
  unfold at_ pshL
  rw [if_neg fun z => h ((List.prefix_append q r).trans z)]
/-- what an event is in the bough -/
def cutE (T u : Dt) (q : Ad) : Evt × Gone → List (Evt × Gone)
  | (.psh n i rs, _) => if T.low q ≤ i ∧ i < T.low q + u.lf then [(.psh n (i - T.low q) (rs.drop q.length), none)] else []
  | (.dep, some (n, i, rs)) => if T.low q ≤ i ∧ i < T.low q + u.lf then [(.dep, some (n, i - T.low q, rs.drop q.length))] else []
  | (.dep, none) => []
def cutEs (T u : Dt) (q : Ad) (es : List (Evt × Gone)) : List (Evt × Gone) := es.flatMap (cutE T u q)
theorem cutE_le (T u : Dt) (q : Ad) (e : Evt × Gone) : (cutE T u q e).length ≤ 1 := by
  obtain ⟨e, o⟩ := e
  cases e with
  | psh n i rs =>
    show (if _ then [_] else []).length ≤ 1
    split
    · exact Nat.le_refl 1
    · exact Nat.zero_le _
  | dep =>
    cases o with
    | none => exact Nat.zero_le _
    | some z =>
      obtain ⟨n, i, rs⟩ := z
      show (if _ then [_] else []).length ≤ 1
      split
      · exact Nat.le_refl 1
      · exact Nat.zero_le _
theorem cutEs_le (T u : Dt) (q : Ad) : ∀ es : List (Evt × Gone), (cutEs T u q es).length ≤ es.length
  | [] => Nat.le_refl _
  | e :: es => by
    have h1 := cutE_le T u q e
    have h2 := cutEs_le T u q es
    unfold cutEs at h2 ⊢
    rw [List.flatMap_cons, List.length_append, List.length_cons]
    omega
theorem step_bough {T u : Dt} {q : Ad} {L L1 : Lns} {e : Evt} {o : Gone} (hu : sub T q = some u) (s : Step T L e o L1) : Run u (at_ q L) (cutE T u q (e, o)) (at_ q L1) := by
  cases s with
  | dep0 h => exact .nil
  | @dep n p rs i d hp =>
    show Run u _ (if _ then _ else _) _
    by_cases c : T.low q ≤ i ∧ i < T.low q + u.lf
    · rw [if_pos c]
      obtain ⟨p', rfl⟩ := (lv_in hu hp).mp c
      rw [at_cut]
      exact Run.one (.dep (d.at hu) (lv_at hu hp))
    · rw [if_neg c, at_cut_off fun z => c ((lv_in hu hp).mpr z)]
      exact .nil
  | @psh n i p rs hp hl hr h0 h1 hn =>
    show Run u _ (if _ then _ else _) _
    by_cases c : T.low q ≤ i ∧ i < T.low q + u.lf
    · rw [if_pos c]
      obtain ⟨p', rfl⟩ := (lv_in hu hp).mp c
      rw [at_psh]
      refine Run.one (.psh (lv_at hu hp) ?_ (fun r hr' => hr r (List.mem_of_mem_drop hr')) h0 h1 fun p2 hp2 => hn _ (lv_sub hu hp2))
      rw [List.length_drop, hl, List.length_append]
      omega
    · rw [if_neg c, at_psh_off fun z => c ((lv_in hu hp).mpr z)]
      exact .nil
theorem run_bough {T u : Dt} {q : Ad} (hu : sub T q = some u) : ∀ {es : List (Evt × Gone)} {L L' : Lns}, Run T L es L' → Run u (at_ q L) (cutEs T u q es) (at_ q L')
  | [], L, L', r => by
    cases r
    exact .nil
  | e :: es, L, L', r => by
    obtain ⟨L1, s, r1⟩ := run_cons r
    unfold cutEs
    rw [List.flatMap_cons]
    exact (step_bough hu s).app (run_bough hu r1)
theorem run_take {T : Dt} : ∀ {a b : List (Evt × Gone)} {L L' : Lns}, Run T L (a ++ b) L' → ∃ L1, Run T L a L1 ∧ Run T L1 b L'
  | [], b, L, L', r => ⟨L, .nil, r⟩
  | e :: a, b, L, L', r => by
    obtain ⟨L1, s, r1⟩ := run_cons (show Run T L (e :: (a ++ b)) L' from r)
    obtain ⟨L2, h1, h2⟩ := run_take r1
    exact ⟨L2, .cons s h1, h2⟩
theorem low_app {T u : Dt} {q r : Ad} {v : Dt} (hu : sub T q = some u) (hv : sub u r = some v) : T.low (q ++ r) = T.low q + u.low r := by
  obtain ⟨A, B, e, hl, oA, oB⟩ := block T q u hu
  have e2 := (sub_app T q u hu r).2
  have hil := idx_lt hv
  have hvp := v.nodes_pos
  have hal := ad_len u
  have hm : ((ad u).map (q ++ ·)).length = u.nodes := by rw [List.length_map, hal]
  have e1 : (ad T).take (A.length + u.idx r) = A ++ ((ad u).map (q ++ ·)).take (u.idx r) := by
    rw [e, List.take_append, List.take_of_length_le (Nat.le_add_right _ _), Nat.add_sub_cancel_left, List.take_append_of_le_length (by omega)]
  have e0 : (ad T).take A.length = A := by
    rw [e]
    exact List.take_left ..
  unfold low
  rw [e2, ← hl, e1, e0, List.filter_append, List.length_append, ← List.map_take, List.filter_map, List.length_map]
  congr 2
  refine List.filter_congr fun x _ => ?_
  exact isLf_app hu x
theorem cutE_cut {T u v : Dt} {q r : Ad} (hu : sub T q = some u) (hv : sub u r = some v) (e : Evt × Gone) : cutEs u v r (cutE T u q e) = cutE T v (q ++ r) e := by
  have hl := low_app hu hv
  have hle := low_le hv
  have one : ∀ (i : Nat) (rs : List (List Int)) (f : Nat → List (List Int) → Evt × Gone), (∀ j qs, cutE u v r (f j qs) = if u.low r ≤ j ∧ j < u.low r + v.lf then [f (j - u.low r) (qs.drop r.length)] else []) →
      cutEs u v r (if T.low q ≤ i ∧ i < T.low q + u.lf then [f (i - T.low q) (rs.drop q.length)] else []) = if T.low (q ++ r) ≤ i ∧ i < T.low (q ++ r) + v.lf then [f (i - T.low (q ++ r)) (rs.drop (q ++ r).length)] else [] := fun i rs f hf => by
    by_cases c : T.low q ≤ i ∧ i < T.low q + u.lf
    · rw [if_pos c]
      show cutE u v r _ ++ [] = _
      rw [List.append_nil, hf]
      by_cases c2 : u.low r ≤ i - T.low q ∧ i - T.low q < u.low r + v.lf
      · rw [if_pos c2, if_pos (by omega), List.drop_drop, List.length_append, hl, Nat.sub_sub]
      · rw [if_neg c2, if_neg (by omega)]
    · rw [if_neg c, if_neg (by omega)]
      rfl
  obtain ⟨e, o⟩ := e
  cases e with
  | psh n i rs => exact one i rs (fun j qs => (.psh n j qs, none)) fun j qs => rfl
  | dep =>
    cases o with
    | none => rfl
    | some z =>
      obtain ⟨n, i, rs⟩ := z
      exact one i rs (fun j qs => (.dep, some (n, j, qs))) fun j qs => rfl
theorem cutEs_cut {T u v : Dt} {q r : Ad} (hu : sub T q = some u) (hv : sub u r = some v) : ∀ es : List (Evt × Gone), cutEs u v r (cutEs T u q es) = cutEs T v (q ++ r) es
  | [] => rfl
  | e :: es => by
    have h1 := cutEs_cut hu hv es
    have h2 := cutE_cut hu hv e
    unfold cutEs at h1 h2 ⊢
    rw [List.flatMap_cons, List.flatMap_append, h1, h2, List.flatMap_cons]
end K65
set_option Elab.async false
set_option linter.all false
set_option maxRecDepth 100000
set_option maxHeartbeats 8000000
namespace K65
open PySem PySem.Spec PyProof.Rows L2 Dt
/-! ### bough_events -/
theorem rSlA_all' {K : PySem.W.Frag} {S : List Addr} {H : Hp} (hS : InD S H) {a : Addr} {xs : List V} {lo hi : Option Int} {Q : VK} (ha : SqT K (offS S H) a xs) (h : ∀ tp H2, Same H H2 → SqT K (offS S H2) tp (cutV xs lo hi) → Q (.ref tp) H2) : rSlA K (.ref a) lo hi H Q := rSlA_off hS ha h
def evDs (es : List (Evt × Gone)) : List PyData := es.map fun x => evD x.1
def spBE (K : PySem.W.Frag) (U : Addr) : Sp := fun vs H Q E => ∃ (fv ev nv : V) (t : Dt) (d : PyData) (o : Option Int), vs = [fv, ev, nv] ∧ DtV K H fv t ∧ t.size ≤ 100000 ∧ Dp K H ev d ∧ (∀ ds, d = .tuple ds → ds.length ≤ 1000 ∧ ∀ e ∈ ds, EvOk e) ∧ NumV K H nv o ∧
  (t.good 1 = false → ∀ H', Same H H' → Out U "form" H' E) ∧
  (t.good 1 = true → t.ht ≤ 15 ∧ t.nodes ≤ 64 ∧ (evsOf t d = false → ∀ H', Same H H' → Out U "events" H' E) ∧
    (evsOf t d = true → belowB (t.nodes : Nat) o = false → ∀ H', Same H H' → Out U "node" H' E) ∧
    (evsOf t d = true → ∀ q u, o = some (t.idx q : Nat) → sub t q = some u → ∃ (es : List (Evt × Gone)) (L' : Lns), d = .tuple (evDs es) ∧ es.length ≤ 90 ∧ Run t (fun _ => []) es L' ∧
      ∀ H' r, Same H H' → H r = none → Dp K H' (.ref r) (.tuple (evDs (cutEs t u q es))) → Q (.ref r) H'))
section
variable {P : Program} {w : World} {K : PySem.W.Frag} {mg : Str → Option Value} {base : Heap} {C CS U fG : Addr}
theorem ok_be {fS : Addr} {fdS : FuncData} (D : DefAt K mg "bough_events" s_bough_events ["form", "events", "node"]) (T0 : Txt K mg) (SC : StCl K CS) (TC : TCl K mg C fG) (MS : Mk K CS fS) (gS : mg "Standing" = some (.ref CS)) (bS : Binds K fdS ["self", "form"] []) (FS : FnOk P w K mg base CX0 24 fS fdS ["self", "form"] (spMadeQ K C CS))
    (GShapeTree : CalX P w K mg base (L2.CX P w) 23 "shape_tree" ["form", "word"] (spShapeTree K C U)) (GNeed : CalX P w K mg base (L2.CX P w) 3 "need" ["fits", "word"] (spNeed U)) (GAreEvents : CalX P w K mg base CX0 6 "are_events" ["tree", "thing"] (spEvents K C)) (GNeedNode : CalX P w K mg base (L2.CX P w) 4 "need_node" ["tree", "node", "word"] (spNeedNode K C U))
    (MPush : MQ P w K mg base CS 5 "push" ["self", "number", "queue", "ranks"] (spPushQ K C CS)) (MDepart : MQ P w K mg base CS 5 "depart" ["self"] (spDepart K C CS)) : CalX P w K mg base (L2.CX P w) 26 "bough_events" ["form", "events", "node"] (spBE K U) := by
  refine D.okX sc_bough_events (fun vs H Q E h => ?_) (fun f cdv A outer s H vs Q E hr h => ?_)
  · obtain ⟨fv, ev, nv, t, d, o, rfl, _⟩ := h
    rfl
  obtain ⟨fv, ev, nv, t, d, on, rfl, hfv, hsz, hev, hok, hnv, q1, q2⟩ := h
  refine ⟨_, (pss_cons (ps_set (i := 3) sc_bough_events.nd rfl (.inl rfl) (pe_cx GShapeTree hr (by decide) rfl (passes_call (takes_of rfl rfl rfl rfl) (fun _ _ _ _ h => h)) (pa_cons (pv 0) (pa_cons pe_str pa_nil)))) 
    (pss_cons (ps_expr (pe_cx GNeed hr (by decide) rfl (passes_call (takes_of rfl rfl rfl rfl) (fun _ _ _ _ h => h)) (pa_cons (pe_c0 GAreEvents hr (by decide) rfl (pa_cons (pv 3) (pa_cons (pv 1) pa_nil))) (pa_cons pe_str pa_nil)))) 
    (pss_cons (ps_expr (pe_cx GNeedNode hr (by decide) rfl (passes_call (takes_of rfl rfl rfl rfl) (fun _ _ _ _ h => h)) (pa_cons (pv 3) (pa_cons (pv 2) (pa_cons pe_str pa_nil))))) 
    (pss_cons (ps_set (i := 4) sc_bough_events.nd rfl (.inl rfl) (pe_make MS FS (hr.mono (by decide)) rfl gS bS .nil pass0 (pa_cons (pv 0) pa_nil))) 
    (pss_cons (ps_set (i := 5) sc_bough_events.nd rfl (.inl rfl) (pe_lst pa_nil)) 
    (pss_cons (ps_for (passes_of rfl) rfl (pi_tup (pv 1)) (pg_name (i := 6) sc_bough_events.nd rfl (Or.inl rfl)) 
      (pss_cons (ps_if (pt_cmpR op_eq (pe_ix ix_tup (pv 6) pe_int (fun _ _ => rfl)) pe_str (nomark _)) 
        (pss_cons (ps_set (i := 7) sc_bough_events.nd rfl (.inl rfl) (pe_ix ix_tup (pv 6) pe_int (fun _ _ => rfl))) 
        (pss_one (ps_expr (pe_m1 (pv 4) SC.cl MPush hr (by decide) (pa_cons (pe_ix ix_tup (pv 6) pe_int (fun _ _ => rfl)) (pa_cons (pv 7) (pa_cons (pe_ix ix_tup (pv 6) pe_int (fun _ _ => rfl)) pa_nil))))))) 
        (pss_cons (ps_set (i := 8) sc_bough_events.nd rfl (.inl rfl) (pe_m0 (pv 4) SC.cl MDepart hr (by decide))) 
        (pss_one (ps_set (i := 7) sc_bough_events.nd rfl (.inl rfl) (pe_ifExp (pt_cmpR op_isN (pv 8) pe_non (nomark _)) pe_non (pe_ix ix_seq (pv 8) pe_int (fun _ _ => rfl))))))) 
      (pss_cons (ps_if (PW.pt (pw_or (pt_cmpR op_isN (pv 7) pe_non (nomark _)) (pw_or1 (pt_not (pt_chain op_le op_lt (pe_ix ix_list (pe_fld (pv 3) rfl) (pv 2) (fun _ _ => rfl)) (pv 7) (pe_ix ix_list (pe_fld (pv 3) rfl) (pv 2) (fun _ _ => rfl))))))) 
        (pss_one ps_continue) pss_nil) 
      (pss_one (ps_if (pt_cmpR op_eq (pe_ix ix_tup (pv 6) pe_int (fun _ _ => rfl)) pe_str (nomark _)) 
        (pss_one (ps_expr (pe_bm PySem.F.plainAttrs_list PySem.F.slot_list_append PySem.F.type_list_append mt_append (pv 5) (pa_cons (pe_tup (pa_cons pe_str (pa_cons (pe_ix ix_tup (pv 6) pe_int (fun _ _ => rfl)) (pa_cons (pe_op op_sub (pv 7) (pe_ix ix_list (pe_fld (pv 3) rfl) (pv 2) (fun _ _ => rfl))) (pa_cons (pe_slice sl_tupA (pe_ix ix_tup (pv 6) pe_int (fun _ _ => rfl)) (po_some (pe_ix ix_list (pe_fld (pv 3) rfl) (pv 2) (fun _ _ => rfl))) po_none) pa_nil))))) pa_nil)))) 
        (pss_one (ps_expr (pe_bm PySem.F.plainAttrs_list PySem.F.slot_list_append PySem.F.type_list_append mt_append (pv 5) (pa_cons (pv 6) pa_nil))))))))) 
    (pss_one (ps_ret (pe_callTy call_tuple_of (by rfl) T0.tuple PyProof.Rows.boot_tuple (pa_cons (pv 5) pa_nil)))))))))), ?_⟩
  have hsl := sizeLine_eq
  refine ⟨_, rfl, fv, t, "form", rfl, hfv, hsz, fun g => ?_, fun g H1 s1 => q1 g H1 s1⟩
  obtain ⟨hht, hnd, q3, q4, q5⟩ := q2 g
  refine ⟨by omega, by omega, fun ta0 H1 _ s1 tn0 hta0 tr0 => ?_⟩
  refine ⟨_, rfl, _, rfl, ta0, ev, t, d, rfl, tr0, dp_same s1 hev, hok, fun H2 s2 => ⟨_, "events", rfl, fun eb => ?_, fun eb => q3 eb H2 (s1.trans s2)⟩⟩
  have s12 := s1.trans s2
  have tr2 := tr0.same s2
  refine ⟨_, rfl, _, rfl, ta0, nv, on, t, "node", rfl, tr2, numV_same s12 hnv, fun bb => ?_, fun bb => q4 eb bb H2 s12⟩
  obtain ⟨q, hq, rfl⟩ := below_ad bb
  obtain ⟨u, hu⟩ := ad_sub hq
  obtain rfl : nv = .int (t.idx q : Nat) := hnv
  obtain ⟨es, L', rfl, hel, run, q6⟩ := q5 eb q u rfl hu
  refine ⟨_, rfl, fun a dx ha hdx hne => ?_⟩
  have s0 : Same H2 (upd (upd H2 dx (.own a)) a (.ins CS dx [])) := fun y o h => by rw [upd_ne (ne_of_none h ha), upd_ne (ne_of_none h hdx)]; exact h
  refine ⟨a, dx, fv, t, rfl, upd_same, same_dtv (s12.trans s0) hfv, hsz, g, by omega, by omega, fun H3 ta la sd Ls st tn fr fresh => ⟨rfl, ?_⟩⟩
  have s3 : Same H2 H3 := fun y o h => fr y o (s0 y o h) (ne_of_none h ha)
  have fresh2 : ∀ y ∈ sd :: Ls, H2 y = none := fun y hy => s0.free (fresh y hy)
  refine ⟨(by show 0 ≤ sizeLine; decide), fun dl hdl => ?_⟩
  have hdl2 := s3.free hdl
  have sj3 : SJ K C CS (sd :: Ls) H3 a ta la sd Ls t (fun _ => []) [] 0 := ⟨st, ⟨(fun q w _ _ e h => nomatch h), fun q w j _ _ => rfl⟩, ⟨(fun n i p _ h => nomatch h), (fun k v h => nomatch h), fun p _ => List.Pairwise.nil⟩, g, by omega, by omega, hsz, (fun q => Nat.le_refl _), by decide, Nat.zero_le _⟩
  have hdlS : dl ∉ sd :: Ls := fun z => by
    have := sj3.st.al dl z
    exact this hdl
  have s3d : Same H3 (upd H3 dl (.lst [])) := same_new hdl
  have sj3d : SJ K C CS (dl :: sd :: Ls) (upd H3 dl (.lst [])) a ta la sd Ls t (fun _ => []) [] 0 := ⟨sj3.st.grow (N := [dl]) s3d (fun y hy => by rw [List.mem_singleton.mp hy]; exact hdl) (fun y hy => by rw [List.mem_singleton.mp hy, upd_same]; exact fun z => nomatch z), sj3.con, sj3.se, sj3.gd, sj3.ht, sj3.nd, sj3.sm, sj3.sz, sj3.m9, sj3.kz⟩
  -- what stood in H2 stands, seen without the lists that change
  have off2 : ∀ {H'}, GoS (dl :: sd :: Ls) H3 H' → Same H2 (offS (dl :: sd :: Ls) H') := fun {H'} gg y o e => by
    have n1 : y ∉ dl :: sd :: Ls := fun z => by
      rcases List.mem_cons.mp z with z | z
      · rw [z, hdl2] at e
        exact nomatch e
      · rw [fresh2 y z] at e
        exact nomatch e
    rw [offS_ne n1]
    exact gg.at (s3 _ _ e) n1
  have hev2 := dp_same s12 hev
  cases hev2 with
  | @tup eb' evs _ heb hevs =>
  have hevl := dps_len hevs
  unfold evDs at hevl hevs
  rw [List.length_map] at hevl
  have onE : ∀ {H'}, GoS (dl :: sd :: Ls) H3 H' → Same H2 H' := fun gg y o e => (offS_some (off2 gg y o e)).2
  refine ⟨_, rfl, eb', rfl, ⟨_, same_sqt (s3.trans s3d) heb⟩, ?_⟩
  refine for_tup (K := K) (a := eb') (xs := evs) (fun i σ H' => ∃ (Lc : Lns) (kv : List (Key × V)) (o6 o7 o8 : Option V) (fs : List V), σ = [some fv, some (.ref eb'), some (.int (t.idx q : Nat)), some (.ref ta0), some (.ref a), some (.ref dl), o6, o7, o8] ∧ GoS (dl :: sd :: Ls) H3 H' ∧ H' dl = some (.lst fs) ∧ DpAll K (offS (dl :: sd :: Ls) H') fs (evDs (cutEs t u q (es.take i))) ∧ SJ K C CS (dl :: sd :: Ls) H' a ta la sd Ls t Lc kv i ∧ Run t Lc (es.drop i) L')
    ⟨_, _, _, _, _, [], rfl, (GoS.of (same_new hdl)), upd_same, .nil, sj3d, run⟩ (fun i σ H' _ ⟨_, _, _, _, _, _, _, gg, _⟩ => same_sqt (onE gg) heb) ?_ ?_
  · rintro i x σ H4 hx ⟨Lc, kv, o6, o7, o8, fs, rfl, g4, hd4, hfs, sj4, run4⟩
    have hil := (List.getElem?_eq_some_iff.mp hx).1
    rw [hevl] at hil
    have ee : es.drop i = es[i] :: es.drop (i + 1) := List.drop_eq_getElem_cons hil
    have etk : es.take (i + 1) = es.take i ++ [es[i]] := List.take_succ_eq_append_getElem hil
    obtain ⟨dx0, hx1, hx2⟩ := dps_at hevs hx
    rw [List.getElem?_map, List.getElem?_eq_getElem hil] at hx1
    obtain rfl := Option.some.inj hx1
    rw [ee] at run4
    generalize es[i] = e at ee etk run4 hx2
    obtain ⟨L1, st1, run5⟩ := run_cons run4
    obtain ⟨e, o⟩ := e
    have ecut : cutEs t u q (es.take (i + 1)) = cutEs t u q (es.take i) ++ cutE t u q (e, o) := by
      rw [etk]
      unfold cutEs
      rw [List.flatMap_append]
      simp
    have hfl := dps_len hfs
    have hcl := cutEs_le t u q (es.take i)
    unfold evDs at hfl
    rw [List.length_map] at hfl
    rw [List.length_take] at hcl
    have sub2 : ∀ y ∈ sd :: Ls, y ∈ dl :: sd :: Ls := fun y hy => List.mem_cons_of_mem _ hy
    have memD : dl ∈ dl :: sd :: Ls := List.mem_cons_self ..
    obtain ⟨dx4, hob4⟩ := sj4.st.obj
    have inD4 : InD (dl :: sd :: Ls) H4 := sj4.st.al
    -- the lists of the tree
    have tree : ∀ {H'}, GoS (dl :: sd :: Ls) H3 H' → Tree K H' C ta0 t := fun gg => tr2.same (onE gg)
    cases e with
    | psh n qi rs =>
      obtain ⟨p, rfl, rfl, hp, hrl, hrk, n0, n1, hfr⟩ := step_psh st1
      have hx2' : Dp K H2 x (.tuple [.str "push", .int n, .int (qi : Nat), .tuple (rs.map intsD)]) := hx2
      have hx2o := dp_same (off2 g4) hx2'
      cases hx2' with
      | @tup xb xs2 _ hxb hxs =>
      cases hxs with
      | @cons v1 _ _ _ e1 hxs =>
      cases hxs with
      | @cons v2 _ _ _ e2 hxs =>
      cases hxs with
      | @cons v3 _ _ _ e3 hxs =>
      cases hxs with
      | @cons v4 _ _ _ e4 hxs =>
      cases hxs
      cases e1
      cases e2
      cases e3
      have hxb4 := same_sqt (onE g4) hxb
      refine ⟨_, rfl, xb, _, 0, _, rfl, rfl, hxb4, atI_0 rfl, rfl, _, rfl, ?_⟩
      refine ite2 (fun _ => ?_) (fun c => absurd (decide_eq_true rfl) c)
      refine ⟨_, rfl, xb, _, 2, _, rfl, rfl, hxb4, atI_2 rfl, ?_⟩
      refine ⟨_, rfl, a, dx4, _, rfl, hob4, rfl, _, rfl, xb, _, 1, _, rfl, rfl, hxb4, atI_1 rfl, _, rfl, _, rfl, xb, _, 3, _, rfl, rfl, hxb4, atI_3 rfl, ?_⟩
      refine ⟨a, ta, la, sd, _, Ls, t, Lc, kv, n, qi, p, v4, rs, rfl, sj4.st, sj4.ht20, seat_absent sj4.se hfr, n0, n1, hp, dp_same (off2 g4) e4, hrl, hrk, sj4.sz', by have := sj4.kz; omega, fun H5 g5 st5 => ?_⟩
      have g45 := g4.trans (g5.wide sub2)
      have hd5 := g5.at hd4 hdlS
      have hfs5 := dps_same (g5.d sub2) hfs
      have sj5 := sj4.psh hp (seat_absent sj4.se hfr) (by omega) st5
      have hxb5 := same_sqt (onE g45) hxb
      obtain ⟨dt, fv', LL, SS, h1, h2, h3, h4⟩ := tree g45
      obtain ⟨v5, e5, c5⟩ := h2.node (k := 5) (by decide) hq
      obtain rfl : v5 = .int (t.low q : Nat) := c5
      obtain ⟨v6, e6, u6, hu6, rfl⟩ := h2.node (k := 6) (by decide) hq
      rw [hu] at hu6
      obtain rfl := Option.some.inj hu6
      obtain ⟨v3, e3, c3⟩ := h2.node (k := 3) (by decide) hq
      obtain rfl : v3 = .int (q.length : Nat) := c3
      -- out of the bough
      have out : ¬ (t.low q ≤ qi ∧ qi < t.low q + u.lf) → ∃ (Lc' : Lns) (kv' : List (Key × V)) (o6' o7' o8' : Option V) (fs' : List V), ([some fv, some (.ref eb'), some (.int (t.idx q : Nat)), some (.ref ta0), some (.ref a), some (.ref dl), some (.ref xb), some (.int (qi : Nat)), o8] : L2.St) = [some fv, some (.ref eb'), some (.int (t.idx q : Nat)), some (.ref ta0), some (.ref a), some (.ref dl), o6', o7', o8'] ∧ GoS (dl :: sd :: Ls) H3 H5 ∧ H5 dl = some (.lst fs') ∧ DpAll K (offS (dl :: sd :: Ls) H5) fs' (evDs (cutEs t u q (es.take (i + 1)))) ∧ SJ K C CS (dl :: sd :: Ls) H5 a ta la sd Ls t Lc' kv' (i + 1) ∧ Run t Lc' (es.drop (i + 1)) L' := fun no => by
        refine ⟨_, _, _, _, _, fs, rfl, g45, hd5, ?_, sj5, run5⟩
        rw [ecut, show cutE t u q (.psh n qi rs, none) = [] from if_neg no, List.append_nil]
        exact hfs5
      refine ⟨_, rfl, rfl, _, rfl, iteF ?_⟩
      refine ⟨_, rfl, ta0, C, dt, _, _, rfl, h1.ob, TC.cl, TC.n5, stF_5 _ _, _, rfl, LL 5, _, _, _, rfl, rfl, SqL.of (h1.ls 5 (by decide)), e5, _, rfl, _, _, rfl, rfl, _, rfl, ite2 (fun c1 => ?_) (fun c1 => ?_)⟩
      rotate_left
      · have c1' : ¬ ((t.low q : Nat) : Int) ≤ (qi : Nat) := fun z => c1 (decide_eq_true z)
        exact ⟨_, rfl, iteT (out fun z => c1' (by omega))⟩
      have c1' : ((t.low q : Nat) : Int) ≤ (qi : Nat) := of_decide_eq_true c1
      refine ⟨_, rfl, ta0, C, dt, _, _, rfl, h1.ob, TC.cl, TC.n6, stF_6 _ _, _, rfl, LL 6, _, _, _, rfl, rfl, SqL.of (h1.ls 6 (by decide)), e6, _, _, rfl, rfl, _, rfl, ?_⟩
      refine ite2 (fun c2 => ?_) (fun c2 => ?_)
      · have c2' : ¬ ((qi : Nat) : Int) < ((t.low q + u.lf : Nat) : Int) := by simpa using c2
        exact out fun z => c2' (by omega)
      have c2' : ((qi : Nat) : Int) < ((t.low q + u.lf : Nat) : Int) := by simpa using c2
      have yes : t.low q ≤ qi ∧ qi < t.low q + u.lf := by omega
      refine ⟨_, rfl, xb, _, 0, _, rfl, rfl, hxb5, atI_0 rfl, rfl, _, rfl, ?_⟩
      refine ite2 (fun _ => ?_) (fun c => absurd (decide_eq_true rfl) c)
      refine ⟨_, rfl, .inl ⟨rfl, _, SqL.of hd5⟩, _, rfl, xb, _, 1, _, rfl, rfl, hxb5, atI_1 rfl, _, rfl, _, rfl, ta0, C, dt, _, _, rfl, h1.ob, TC.cl, TC.n5, stF_5 _ _, _, rfl, LL 5, _, _, _, rfl, rfl, SqL.of (h1.ls 5 (by decide)), e5, _, _, rfl, rfl, ?_⟩
      have e4o := dp_same (off2 g45) e4
      have ein : InD (dl :: sd :: Ls) H5 := sj5.st.al
      cases e4o with
      | @tup b4 x4 _ hb4 hx4 =>
      refine ⟨_, rfl, xb, _, 3, _, rfl, rfl, hxb5, atI_3 rfl, _, rfl, ta0, C, dt, _, _, rfl, h1.ob, TC.cl, TC.n3, stF_3 _ _, _, rfl, LL 3, _, _, _, rfl, rfl, SqL.of (h1.ls 3 (by decide)), e3, _, rfl, ?_⟩
      dsimp only [tNoPart]
      refine rSlA_off ein hb4 fun sp H6 s6 hsp => ?_
      rw [cut_drop] at hsp
      refine ⟨(by show 4 ≤ sizeLine; decide), fun tp htp => ?_⟩
      have s7 := same_new (o := .tup [.str "push", .int n, .int ((qi : Nat) - (t.low q : Nat)), .ref sp]) htp
      have htp7 : (upd H6 tp (.tup [.str "push", .int n, .int ((qi : Nat) - (t.low q : Nat)), .ref sp])) tp = some (.tup [.str "push", .int n, .int ((qi : Nat) - (t.low q : Nat)), .ref sp]) := upd_same
      have ein6 : InD (dl :: sd :: Ls) H6 := ein.same s6
      have ntp := ein6.new htp
      revert s7 htp7
      generalize upd H6 tp (.tup [.str "push", .int n, .int ((qi : Nat) - (t.low q : Nat)), .ref sp]) = H7
      intro s7 htp7
      have s57 := s6.trans s7
      have hd7 := s57 _ _ hd5
      refine ⟨dl, _, _, rfl, rfl, hd7, small1000 (by omega), ?_⟩
      have g8 : GoS (dl :: sd :: Ls) H5 (upd H7 dl (.lst (fs ++ [.ref tp]))) := (GoS.of s57).upd memD
      refine ⟨pshL p rs n Lc, putK kv (Sum.inl n : Key) (.int (qi : Nat)), _, _, _, fs ++ [.ref tp], rfl, g45.trans g8, upd_same, ?_, ?_, run5⟩
      · rw [ecut]
        unfold evDs
        rw [List.map_append, show cutE t u q (.psh n qi rs, none) = [_] from if_pos yes]
        have gD : GoD (dl :: sd :: Ls) H7 (upd H7 dl (.lst (fs ++ [.ref tp]))) := GoD.refl.upd memD
        refine dps_app (dps_same ((GoD.of s57).trans gD) hfs5) (.cons ?_ .nil)
        refine dp_same gD (.tup (sqt_offS htp7 ntp) (.cons (.str _) (.cons (.int n) (.cons ?_ (.cons ?_ .nil)))))
        · have : ((qi : Nat) : Int) - (t.low q : Nat) = ((qi - t.low q : Nat) : Int) := by omega
          rw [this]
          exact .int _
        · rw [List.map_drop]
          exact .tup (same_sqt (GoD.of s7) hsp) (dps_same (GoD.of s57) (dps_drop q.length hx4))
      · exact (sj5.keep ((GoS.of s57).upd (List.mem_singleton.mpr rfl) : GoS [dl] H5 _) (fun y hy => by rw [List.mem_singleton.mp hy]; exact memD) (fun y hy => by rw [List.mem_singleton.mp hy]; exact hdlS))
    | dep =>
      have hx2' : Dp K H2 x (.tuple [.str "depart"]) := hx2
      cases hx2' with
      | @tup xb xs2 _ hxb hxs =>
      cases hxs with
      | @cons v1 _ _ _ e1 hxs =>
      cases hxs
      cases e1
      have hxb4 := same_sqt (onE g4) hxb
      refine ⟨_, rfl, xb, _, 0, _, rfl, rfl, hxb4, atI_0 rfl, rfl, _, rfl, ?_⟩
      refine ite2 (fun c => ?_) (fun _ => ?_)
      · exact absurd (of_decide_eq_true c) (by decide +kernel)
      refine ⟨_, rfl, a, dx4, _, rfl, hob4, rfl, a, ta, la, sd, _, Ls, t, Lc, kv, rfl, sj4.st, sj4.ht20, sj4.con, sj4.se, sj4.sz', fun he0 => ?_, fun n p rs qi dd hqi H5 v5 g5 st5 hv5 hdv => ?_⟩
      · rcases step_dep st1 with ⟨rfl, _, rfl⟩ | ⟨n, p, rs, qi, _, dd, _⟩
        · refine ⟨_, rfl, rfl, _, rfl, iteT ?_⟩
          refine ⟨_, rfl, rfl, _, rfl, iteT (iteT ?_)⟩
          refine ⟨_, _, _, _, _, fs, rfl, g4, hd4, ?_, sj4.mono (Nat.le_succ _) (by omega), run5⟩
          rw [ecut, show cutE t u q (.dep, none) = [] from rfl, List.append_nil]
          exact hfs
        · exact absurd he0 (dep_ne dd)
      · rcases step_dep st1 with ⟨_, he0, _⟩ | ⟨n', p', rs', qi', rfl, dd', hqi', rfl⟩
        · exact absurd he0 (dep_ne dd)
        obtain ⟨rfl, rfl, rfl⟩ := dep_det _ _ _ _ _ _ _ _ dd dd'
        obtain rfl := lv_i hqi hqi'
        have g45 := g4.trans (g5.wide sub2)
        have hd5 := g5.at hd4 hdlS
        have hfs5 := dps_same (g5.d sub2) hfs
        have sj5 := sj4.cut dd st5
        have hxb5 := same_sqt (onE g45) hxb
        obtain ⟨dt, fv', LL, SS, h1, h2, h3, h4⟩ := tree g45
        obtain ⟨w5, e5, c5⟩ := h2.node (k := 5) (by decide) hq
        obtain rfl : w5 = .int (t.low q : Nat) := c5
        obtain ⟨v6, e6, u6, hu6, rfl⟩ := h2.node (k := 6) (by decide) hq
        rw [hu] at hu6
        obtain rfl := Option.some.inj hu6
        unfold depD at hdv
        cases hdv with
        | @tup vb vs5 _ hvb hvs =>
        cases hvs with
        | @cons y1 _ _ _ f1 hvs =>
        cases hvs with
        | @cons y2 _ _ _ f2 hvs =>
        cases f1
        cases f2
        have hvb5 := same_sqt offS_same hvb
        refine ⟨_, rfl, rfl, _, rfl, iteF ?_⟩
        refine ⟨_, rfl, .inr (.inl ⟨v5, _, _, _, rfl, rfl, hvb5, atI_1 rfl, ?_⟩)⟩
        have out : ¬ (t.low q ≤ qi ∧ qi < t.low q + u.lf) → ∃ (Lc' : Lns) (kv' : List (Key × V)) (o6' o7' o8' : Option V) (fs' : List V), ([some fv, some (.ref eb'), some (.int (t.idx q : Nat)), some (.ref ta0), some (.ref a), some (.ref dl), some (.ref xb), some (.int (qi : Nat)), some (.ref v5)] : L2.St) = [some fv, some (.ref eb'), some (.int (t.idx q : Nat)), some (.ref ta0), some (.ref a), some (.ref dl), o6', o7', o8'] ∧ GoS (dl :: sd :: Ls) H3 H5 ∧ H5 dl = some (.lst fs') ∧ DpAll K (offS (dl :: sd :: Ls) H5) fs' (evDs (cutEs t u q (es.take (i + 1)))) ∧ SJ K C CS (dl :: sd :: Ls) H5 a ta la sd Ls t Lc' kv' (i + 1) ∧ Run t Lc' (es.drop (i + 1)) L' := fun no => by
          refine ⟨_, _, _, _, _, fs, rfl, g45, hd5, ?_, sj5.mono (Nat.le_succ _) (by omega), run5⟩
          rw [ecut, show cutE t u q (.dep, some (n, qi, rs)) = [] from if_neg no, List.append_nil]
          exact hfs5
        refine ⟨_, rfl, rfl, _, rfl, iteF ?_⟩
        refine ⟨_, rfl, ta0, C, dt, _, _, rfl, h1.ob, TC.cl, TC.n5, stF_5 _ _, _, rfl, LL 5, _, _, _, rfl, rfl, SqL.of (h1.ls 5 (by decide)), e5, _, rfl, _, _, rfl, rfl, _, rfl, ite2 (fun c1 => ?_) (fun c1 => ?_)⟩
        rotate_left
        · have c1' : ¬ ((t.low q : Nat) : Int) ≤ (qi : Nat) := fun z => c1 (decide_eq_true z)
          exact ⟨_, rfl, iteT (out fun z => c1' (by omega))⟩
        have c1' : ((t.low q : Nat) : Int) ≤ (qi : Nat) := of_decide_eq_true c1
        refine ⟨_, rfl, ta0, C, dt, _, _, rfl, h1.ob, TC.cl, TC.n6, stF_6 _ _, _, rfl, LL 6, _, _, _, rfl, rfl, SqL.of (h1.ls 6 (by decide)), e6, _, _, rfl, rfl, _, rfl, ?_⟩
        refine ite2 (fun c2 => ?_) (fun c2 => ?_)
        · have c2' : ¬ ((qi : Nat) : Int) < ((t.low q + u.lf : Nat) : Int) := by simpa using c2
          exact out fun z => c2' (by omega)
        have c2' : ((qi : Nat) : Int) < ((t.low q + u.lf : Nat) : Int) := by simpa using c2
        have yes : t.low q ≤ qi ∧ qi < t.low q + u.lf := by omega
        refine ⟨_, rfl, xb, _, 0, _, rfl, rfl, hxb5, atI_0 rfl, rfl, _, rfl, ?_⟩
        refine ite2 (fun c => absurd (of_decide_eq_true c) (by decide +kernel)) (fun _ => ?_)
        refine ⟨_, rfl, .inl ⟨rfl, _, SqL.of hd5⟩, _, rfl, dl, _, _, rfl, rfl, hd5, small1000 (by omega), ?_⟩
        have gD : GoD (dl :: sd :: Ls) H5 (upd H5 dl (.lst (fs ++ [.ref xb]))) := GoD.refl.upd memD
        refine ⟨cutL p Lc, dropK kv (Sum.inl n : Key), _, _, _, fs ++ [.ref xb], rfl, g45.upd memD, upd_same, ?_, ?_, run5⟩
        · rw [ecut]
          unfold evDs
          rw [List.map_append, show cutE t u q (.dep, some (n, qi, rs)) = [_] from if_pos yes]
          refine dps_app (dps_same gD hfs5) (.cons ?_ .nil)
          exact dp_same gD (dp_same (off2 g45) hx2)
        · exact (sj5.keep (GoS.refl.upd (List.mem_singleton.mpr rfl) : GoS [dl] H5 _) (fun y hy => by rw [List.mem_singleton.mp hy]; exact memD) (fun y hy => by rw [List.mem_singleton.mp hy]; exact hdlS)).mono (Nat.le_succ _) (by omega)
  · rintro σ H4 ⟨Lc, kv, o6, o7, o8, fs, rfl, g4, hd4, hfs, sj4, run4⟩
    rw [hevl, List.take_length] at hfs
    refine ⟨_, rfl, dl, _, rfl, .inl ⟨SqL.of hd4, fun tl htl => ?_⟩⟩
    have s5 : Same H4 (upd H4 tl (.tup fs)) := same_new htl
    refine q6 _ tl (s12.trans ((onE g4).trans s5)) (s12.free ((onE g4).free htl)) ?_
    exact .tup (SqT.of upd_same) (dps_same (offS_same.trans s5) hfs)
end
end K65
set_option Elab.async false
set_option linter.all false
set_option maxRecDepth 100000
set_option maxHeartbeats 8000000
namespace K65
open PySem PySem.Spec PyProof.Rows L2 Dt
theorem pt_conv {X : Cx} {e : Expr} {t t' : TT} (h : PT X e t) (c : ∀ σ H Q, t' σ H Q → t σ H Q) : PT X e t' := ⟨fun pins s σ H Q I k => h.run pins s σ H Q I (c σ H Q k)⟩
/-! ### a row of shapes -/
def rowD : List Dt → Dt
  | [] => .o
  | k :: r => .c k (rowD r)
theorem rowD_kids : ∀ ts : List Dt, (rowD ts).kids = ts
  | [] => rfl
  | k :: r => congrArg (k :: ·) (rowD_kids r)
theorem rowD_len (ts : List Dt) : (rowD ts).len = ts.length := by rw [← kids_len, rowD_kids]
theorem rowD_isx : ∀ ts : List Dt, (rowD ts).isx = false
  | [] => rfl
  | _ :: _ => rfl
theorem rowD_good {ts : List Dt} (h : ts.length ≤ 6) (hk : ∀ k ∈ ts, k.good 1 = true) : (rowD ts).good 1 = true := by
  unfold Dt.good Dt.here
  rw [kids_good, rowD_kids, rowD_isx, rowD_len, decide_eq_true h]
  have e : ts.all (Dt.good 1) = true := List.all_eq_true.mpr hk
  rw [e]
  by_cases c : 0 < ts.length
  · rw [decide_eq_false (show ¬ ts.length < 1 by omega)]
    simp
  · rw [decide_eq_false c]
    simp
theorem rowD_ht {h : Nat} : ∀ ts : List Dt, (∀ k ∈ ts, k.ht ≤ h) → (rowD ts).ht ≤ h + 1
  | [], _ => Nat.zero_le _
  | k :: r, g => by
    show max (k.ht + 1) (rowD r).ht ≤ h + 1
    have h1 := g k (List.mem_cons_self ..)
    have h2 := rowD_ht r fun x hx => g x (List.mem_cons_of_mem _ hx)
    omega
def ndS (ts : List Dt) : Nat := (ts.map nodes).sum
theorem rowD_nodes : ∀ ts : List Dt, (rowD ts).nodes = ndS ts + 1
  | [] => rfl
  | k :: r => by
    show k.nodes + (rowD r).nodes = _
    rw [rowD_nodes r]
    unfold ndS
    rw [List.map_cons, List.sum_cons]
    omega
theorem ndS_app (a b : List Dt) : ndS (a ++ b) = ndS a + ndS b := by
  unfold ndS
  rw [List.map_append, List.sum_append]
theorem shf_row {K : PySem.W.Frag} {H : Hp} : ∀ {vs : List V} {ts : List Dt}, Paired (ShV K H) vs ts → ShF K H vs (rowD ts)
  | _, _, .nil => .nil
  | _, _, .cons h t => by
    obtain ⟨a, xs, rfl, h1, h2⟩ := h
    exact .cons h1 h2 (shf_row t)
theorem pair_app {α β : Type} {F : α → β → Prop} : ∀ {a : List α} {b : List β} {a' : List α} {b' : List β}, Paired F a b → Paired F a' b' → Paired F (a ++ a') (b ++ b')
  | _, _, _, _, .nil, h => h
  | _, _, _, _, .cons r t, h => .cons r (pair_app t h)
theorem pair_mono {α β : Type} {F G : α → β → Prop} (h : ∀ x y, F x y → G x y) : ∀ {a : List α} {b : List β}, Paired F a b → Paired G a b
  | _, _, .nil => .nil
  | _, _, .cons r t => .cons (h _ _ r) (pair_mono h t)
theorem pair_len {α β : Type} {F : α → β → Prop} : ∀ {a : List α} {b : List β}, Paired F a b → a.length = b.length
  | _, _, .nil => rfl
  | _, _, .cons _ t => congrArg (· + 1) (pair_len t)
theorem pair_idx {α β : Type} {F : α → β → Prop} : ∀ {a : List α} {b : List β}, Paired F a b → ∀ {i : Nat} {y : β}, b[i]? = some y → ∃ x, a[i]? = some x ∧ F x y
  | _, _, .nil, i, y, h => by simp at h
  | _, _, .cons r t, 0, y, h => ⟨_, rfl, by have : _ = y := Option.some.inj h; subst this; exact r⟩
  | _, _, .cons r t, i + 1, y, h => by
    obtain ⟨x, h1, h2⟩ := pair_idx t (show _ = some y from h)
    exact ⟨x, h1, h2⟩
theorem same_shv {K : PySem.W.Frag} {H H' : Hp} {v : V} {t : Dt} (e : Same H H') (h : ShV K H v t) : ShV K H' v t := h.keep (KeepT.of_same e)
/-! ### _law_shape -/
def zerosV (s : Nat) : List V := List.replicate s (.int 0)
structure ShT (K : PySem.W.Frag) (H : Hp) (tp ca sl : Addr) (s : Nat) : Prop where
  t : Tape K H tp ca
  l : H sl = some (.lst (zerosV s))
  n1 : sl ≠ tp
  n2 : sl ≠ ca
abbrev sls (sl tp ca : Addr) : List Addr := sl :: tps tp ca
theorem ShT.rn {K : PySem.W.Frag} {H H' : Hp} {tp ca sl : Addr} {s : Nat} (h : ShT K H tp ca sl s) (r : Rn K tp ca H H') : ShT K H' tp ca sl s := ⟨r.b, r.at h.l (fun z => by
  rcases List.mem_cons.mp z with z | z
  · exact h.n1 z
  · exact h.n2 (List.mem_singleton.mp z)), h.n1, h.n2⟩
theorem ShT.same {K : PySem.W.Frag} {H H' : Hp} {tp ca sl : Addr} {s : Nat} (h : ShT K H tp ca sl s) (e : Same H H') : ShT K H' tp ca sl s := h.rn (Rn.of h.t e)
theorem Rn.sl {K : PySem.W.Frag} {H H' : Hp} {tp ca sl : Addr} (r : Rn K tp ca H H') : GoS (sls sl tp ca) H H' := r.g.wide fun y hy => List.mem_cons_of_mem _ hy
def spShape (K : PySem.W.Frag) (n : Nat) : Sp := fun vs H Q _ => ∃ (tp ca sl : Addr) (r d s : Nat) (S : List Addr), vs = [.ref tp, .int (r : Nat), .int (d : Nat), .ref sl] ∧ d < n ∧ 1 ≤ r ∧ r ≤ 24 ∧ s ≤ 16 ∧ ShT K H tp ca sl s ∧ InD S H ∧ sl ∈ S ∧ tp ∈ S ∧ ca ∈ S ∧
  ∀ H' v t s', ShT K H' tp ca sl s' → s' ≤ s → GoS (sls sl tp ca) H H' → ShV K (offS S H') v t → t.good 1 = true → t.ht ≤ d → t.nodes + 1 + s' ≤ 2 * r + s → Q v H'
/-- the first test -/
def tSh1 (K : PySem.W.Frag) : TT := fun σ H Q => ∃ (tp ca sl : Addr) (r d : Nat) (x4 x5 x6 x7 x8 : Option V), σ = [some (.ref tp), some (.int (r : Nat)), some (.int (d : Nat)), some (.ref sl), x4, x5, x6, x7, x8] ∧ Tape K H tp ca ∧ ∀ b H', Rn K tp ca H H' → (b = false → 1 ≤ d) → Q b H'
def tSh2 (K : PySem.W.Frag) : TT := fun σ H Q => ∃ (tp ca sl : Addr) (r d : Nat) (x4 x5 x6 x7 x8 : Option V), σ = [some (.ref tp), some (.int (r : Nat)), some (.int (d : Nat)), some (.ref sl), x4, x5, x6, x7, x8] ∧ Tape K H tp ca ∧ ∀ b H', Rn K tp ca H H' → (b = false → 2 ≤ r) → Q b H'
/-- the extra room of a child -/
def tExtra (K : PySem.W.Frag) : TE := fun σ H Q => ∃ (tp ca : Addr) (re : Nat), σ[0]? = some (some (.ref tp)) ∧ σ[5]? = some (some (.int (re : Nat))) ∧ Tape K H tp ca ∧ re ≤ 100 ∧ ∀ H' (x : Nat), Rn K tp ca H H' → x ≤ re → Q (.int (x : Nat)) H'
theorem minI (i j : Nat) : (if (j : Int) < (i : Int) then (j : Int) else (i : Int)) = ((min i j : Nat) : Int) := by
  by_cases c : (j : Int) < (i : Int)
  · rw [if_pos c]
    omega
  · rw [if_neg c]
    omega
theorem row0 {K : PySem.W.Frag} {S : List Addr} {H : Hp} {a : Addr} (hin : InD S H) (ha : H a = none) : ShV K (offS S (upd H a (.tup []))) (.ref a) .o := ⟨a, [], rfl, sqt_offS upd_same (hin.new ha), .nil⟩
section
variable {P : Program} {w : World} {K : PySem.W.Frag} {mg : Str → Option Value} {base : Heap}
theorem ok_shape_step {n : Nat} (D : DefAt K mg "_law_shape" s_law_shape ["tape", "room", "deep", "spare"]) (T0 : Txt K mg) (GPick : CalX P w K mg base CX0 1 "_law_pick" ["tape", "many"] (spPick K)) (GShape : CalX P w K mg base CX0 (n + 1) "_law_shape" ["tape", "room", "deep", "spare"] (spShape K n)) : CalX P w K mg base CX0 (n + 2) "_law_shape" ["tape", "room", "deep", "spare"] (spShape K (n + 1)) := by
  refine D.ok sc_law_shape (fun vs H Q E h => ?_) (fun f cdv A outer s H vs Q E hr h => ?_)
  · obtain ⟨tp, ca, sl, r, d, s, S, rfl, _⟩ := h
    rfl
  obtain ⟨tp, ca, sl, r, d, sp, S, rfl, hdn, hr1, hr24, hsp, hsh, hin, hS1, hS2, hS3, q⟩ := h
  refine ⟨_, (pss_cons (ps_if (pt_conv (t' := tSh1 K) (PW.pt (pw_or (pt_cmpR op_lt (pv 2) pe_int (nomark _)) (pw_or (PW.pt (pw_and (pt_cmpR op_lt (pv 1) pe_int (nomark _)) (pw_and1 (pt_cmpR op_gt (pe_c0 GPick hr (by omega) rfl (pa_cons (pv 0) (pa_cons pe_int pa_nil))) pe_int (nomark _))))) (pw_or1 (pt_cmpR op_eq (pe_c0 GPick hr (by omega) rfl (pa_cons (pv 0) (pa_cons pe_int pa_nil))) pe_int (nomark _)))))) (by
      rintro σ H Q ⟨tp, ca, sl, r, d, x4, x5, x6, x7, x8, rfl, hT, k⟩
      refine ⟨_, rfl, _, _, rfl, rfl, _, rfl, ite2 (fun c => ?_) (fun c => ?_)⟩
      · exact k true H (Rn.refl hT) (fun z => nomatch z)
      have c' : ¬ ((d : Nat) : Int) < 1 := fun z => c (decide_eq_true z)
      refine ⟨_, rfl, _, _, rfl, rfl, _, rfl, ite2 (fun c2 => ?_) (fun c2 => ?_)⟩
      · refine ⟨_, rfl, tp, ca, 5, rfl, hT, by decide, by decide, fun H1 x hx R1 => ⟨_, _, rfl, rfl, _, rfl, ite2 (fun c3 => ?_) (fun c3 => ?_)⟩⟩
        · exact k true H1 R1 (fun z => nomatch z)
        · refine ⟨_, rfl, tp, ca, 14, rfl, R1.b, by decide, by decide, fun H2 y hy R2 => ⟨rfl, _, rfl, ?_⟩⟩
          exact k _ H2 (R1.trans R2) fun _ => by omega
      · refine ⟨_, rfl, tp, ca, 14, rfl, hT, by decide, by decide, fun H2 y hy R2 => ⟨rfl, _, rfl, ?_⟩⟩
        exact k _ H2 R2 fun _ => by omega)) 
      (pss_one (ps_ret (pe_tup pa_nil))) pss_nil) 
    (pss_cons (ps_if (pt_conv (t' := tSh2 K) (PW.pt (pw_or (pt_cmpR op_lt (pv 1) pe_int (nomark _)) (pw_or1 (pt_cmpR op_eq (pe_c0 GPick hr (by omega) rfl (pa_cons (pv 0) (pa_cons pe_int pa_nil))) pe_int (nomark _))))) (by
      rintro σ H Q ⟨tp, ca, sl, r, d, x4, x5, x6, x7, x8, rfl, hT, k⟩
      refine ⟨_, rfl, _, _, rfl, rfl, _, rfl, ite2 (fun c => ?_) (fun c => ?_)⟩
      · exact k true H (Rn.refl hT) (fun z => nomatch z)
      have c' : ¬ ((r : Nat) : Int) < 2 := fun z => c (decide_eq_true z)
      refine ⟨_, rfl, tp, ca, 5, rfl, hT, by decide, by decide, fun H2 y hy R2 => ⟨rfl, _, rfl, ?_⟩⟩
      exact k _ H2 R2 fun _ => by omega)) 
      (pss_cons (ps_if (pt_cmpR (op_eqD hr.units) (pv 3) (pe_lst pa_nil) (nomark _)) 
        (pss_one (ps_ret (pe_tup pa_nil))) pss_nil) 
      (pss_cons (ps_expr (pe_bm0 PySem.F.plainAttrs_list PySem.F.slot_list_pop PySem.F.type_list_pop mt_pop (pv 3))) 
      (pss_one (ps_ret (pe_tup (pa_cons (pe_c0 GShape hr (Nat.le_refl _) rfl (pa_cons (pv 0) (pa_cons (pv 1) (pa_cons (pe_op op_sub (pv 2) pe_int) (pa_cons (pv 3) pa_nil))))) pa_nil)))))) pss_nil) 
    (pss_cons (ps_set (i := 4) sc_law_shape.nd rfl (.inl rfl) (pe_op op_add pe_int (pe_c0 GPick hr (by omega) rfl (pa_cons (pv 0) (pa_cons (pe_callB (call_min2 rfl) (by rfl) T0.min (by decide +kernel) (pa_cons pe_int (pa_cons (pe_op op_sub (pv 1) pe_int) pa_nil))) pa_nil))))) 
    (pss_cons (ps_set (i := 5) sc_law_shape.nd rfl (.inl rfl) (pe_op op_sub (pv 1) (pv 4))) 
    (pss_cons (ps_set (i := 6) sc_law_shape.nd rfl (.inl rfl) (pe_lst pa_nil)) 
    (pss_cons (ps_for PassesOwn.never rfl (pi_range1 (by rfl) T0.range (pa_cons (pv 4) pa_nil)) (pg_name (i := 7) sc_law_shape.nd rfl (Or.inl rfl)) 
      (pss_cons (ps_set (i := 8) sc_law_shape.nd rfl (.inl rfl) (pe_conv (t' := tExtra K) (pe_ix ix_list (pe_lst (pa_cons pe_int (pa_cons (pv 5) (pa_cons (pe_c0 GPick hr (by omega) rfl (pa_cons (pv 0) (pa_cons (pe_op op_add (pv 5) pe_int) pa_nil))) (pa_cons (pe_callB (call_min2 rfl) (by rfl) T0.min (by decide +kernel) (pa_cons (pv 5) (pa_cons (pe_c0 GPick hr (by omega) rfl (pa_cons (pv 0) (pa_cons pe_int pa_nil))) pa_nil))) pa_nil))))) (pe_c0 GPick hr (by omega) rfl (pa_cons (pv 0) (pa_cons pe_int pa_nil))) (fun _ _ => rfl)) (by
      rintro σ H Q ⟨tp, ca, re, h0, h5, hT, hre, k⟩
      refine ⟨_, h5, _, h0, _, h5, _, _, rfl, rfl, tp, ca, re + 1, congrArg (fun z => [V.ref tp, V.int z]) (by omega), hT, by omega, by omega, fun H1 r1 hr1 R1 => ?_⟩
      refine ⟨_, h5, _, h0, tp, ca, 4, rfl, R1.b, by decide, by decide, fun H2 r2 hr2 R2 => ?_⟩
      refine ⟨_, _, rfl, ?_⟩
      rw [minI]
      refine ⟨(by show 4 ≤ sizeLine; decide), fun l hl => ?_⟩
      have R12 := R1.trans R2
      have s3 := same_new (o := .lst [.int 0, .int (re : Nat), .int (r1 : Nat), .int ((min re r2 : Nat) : Int)]) hl
      have hl3 : (upd H2 l (.lst [.int 0, .int (re : Nat), .int (r1 : Nat), .int ((min re r2 : Nat) : Int)])) l = some (.lst [.int 0, .int (re : Nat), .int (r1 : Nat), .int ((min re r2 : Nat) : Int)]) := upd_same
      have nl : l ∉ tps tp ca := fun z => by
        rcases List.mem_cons.mp z with z | z
        · exact R2.b.new hl z
        · exact R2.b.newC hl (List.mem_singleton.mp z)
      revert s3 hl3
      generalize upd H2 l (.lst [.int 0, .int (re : Nat), .int (r1 : Nat), .int ((min re r2 : Nat) : Int)]) = H3
      intro s3 hl3
      have R13 := R12.same s3
      refine ⟨_, h0, tp, ca, 4, rfl, R13.b, by decide, by decide, fun H4 r4 hr4 R4 => ?_⟩
      have hl4 := R4.at hl3 nl
      have R14 := R13.trans R4
      obtain ⟨x, hx, hxr⟩ : ∃ x : Nat, [V.int 0, .int (re : Nat), .int (r1 : Nat), .int ((min re r2 : Nat) : Int)][r4]? = some (.int (x : Nat)) ∧ x ≤ re := by
        rcases (by omega : r4 = 0 ∨ r4 = 1 ∨ r4 = 2 ∨ r4 = 3) with rfl | rfl | rfl | rfl
        · exact ⟨0, rfl, by omega⟩
        · exact ⟨re, rfl, by omega⟩
        · exact ⟨r1, rfl, by omega⟩
        · exact ⟨min re r2, rfl, by omega⟩
      exact ⟨l, _, _, _, rfl, rfl, SqL.of hl4, atI_nat hx, k H4 x R14 hxr⟩))) 
      (pss_cons (ps_set (i := 5) sc_law_shape.nd rfl (.inl rfl) (pe_op op_sub (pv 5) (pv 8))) 
      (pss_one (ps_expr (pe_bm PySem.F.plainAttrs_list PySem.F.slot_list_append PySem.F.type_list_append mt_append (pv 6) (pa_cons (pe_c0 GShape hr (Nat.le_refl _) rfl (pa_cons (pv 0) (pa_cons (pe_op op_add pe_int (pv 8)) (pa_cons (pe_op op_sub (pv 2) pe_int) (pa_cons (pv 3) pa_nil))))) pa_nil))))))) 
    (pss_one (ps_ret (pe_callTy call_tuple_of (by rfl) T0.tuple PyProof.Rows.boot_tuple (pa_cons (pv 6) pa_nil)))))))))), ?_⟩
  have hsl := sizeLine_eq
  have mS : ∀ y ∈ sls sl tp ca, y ∈ S := fun y hy => by
    rcases List.mem_cons.mp hy with rfl | hy
    · exact hS1
    rcases List.mem_cons.mp hy with rfl | hy
    · exact hS2
    · rw [List.mem_singleton.mp hy]
      exact hS3
  -- the empty shape
  have none0 : ∀ H1, ShT K H1 tp ca sl sp → GoS (sls sl tp ca) H H1 → ∀ a, H1 a = none → Q (.ref a) (upd H1 a (.tup [])) := fun H1 h1 g1 a ha => by
    refine q _ _ .o sp (h1.same (same_new ha)) (Nat.le_refl _) (g1.new ha) (row0 (fun y hy => g1.k y (hin y hy)) ha) (by decide) (Nat.zero_le _) ?_
    show 1 + 1 + sp ≤ _
    omega
  refine ⟨tp, ca, sl, r, d, _, _, _, _, _, rfl, hsh.t, fun b1 H1 R1 hb1 => ?_⟩
  have sh1 := hsh.rn R1
  have g1 : GoS (sls sl tp ca) H H1 := R1.sl
  cases b1 with
  | true => exact iteT ⟨(by show 0 ≤ sizeLine; decide), fun a ha => none0 H1 sh1 g1 a ha⟩
  | false =>
  refine iteF ?_
  have hd1 := hb1 rfl
  refine ⟨tp, ca, sl, r, d, _, _, _, _, _, rfl, sh1.t, fun b2 H2 R2 hb2 => ?_⟩
  have sh2 := sh1.rn R2
  have g2 : GoS (sls sl tp ca) H H2 := g1.trans R2.sl
  cases b2 with
  | true =>
    refine iteT ?_
    -- one child
    refine ⟨_, rfl, (by show 0 ≤ sizeLine; decide), fun el hel => ?_⟩
    have sE := same_new (o := .lst []) hel
    have heE : (upd H2 el (.lst [])) el = some (.lst []) := upd_same
    revert sE heE
    generalize upd H2 el (.lst []) = H3
    intro sE heE
    have sh3 := sh2.same sE
    have g3 := g2.trans (GoS.of sE : GoS (sls sl tp ca) H2 H3)
    have dz : ∀ s, DpAll K H3 (zerosV s) (List.replicate s (PyData.int 0)) := fun s => by
      unfold zerosV
      induction s with
      | zero => exact .nil
      | succ m ih => rw [List.replicate_succ, List.replicate_succ]; exact .cons (.int 0) ih
    refine ⟨.list (List.replicate sp (.int 0)), .list [], .lst (SqL.of sh3.l) (dz sp), .lst (SqL.of heE) .nil, (shp_lst (n := 1) fun e he => by rw [List.eq_of_mem_replicate he]; exact shp_int).ok (by decide), (shp_lst (n := 1) (ds := []) fun e he => by cases he).ok (by decide), _, rfl, ?_⟩
    cases sp with
    | zero => exact iteT ⟨(by show 0 ≤ sizeLine; decide), fun a ha => none0 H3 sh3 g3 a ha⟩
    | succ m =>
    refine iteF ?_
    have hz1 : (zerosV (m + 1))[(zerosV (m + 1)).length - 1]? = some (.int 0) := by
      unfold zerosV
      rw [List.length_replicate, List.getElem?_replicate]
      exact if_pos (by omega)
    have hz2 : (zerosV (m + 1)).dropLast = zerosV m := by
      unfold zerosV
      rw [List.dropLast_replicate]
      rfl
    refine ⟨_, rfl, .inl ⟨rfl, _, SqL.of sh3.l⟩, sl, _, _, rfl, rfl, sh3.l, hz1, ?_⟩
    rw [hz2]
    have sh4 : ShT K (upd H3 sl (.lst (zerosV m))) tp ca sl m := ⟨tape_gos sh3.t (GoS.refl.upd (List.mem_singleton.mpr rfl) : GoS [sl] H3 _) (fun z => sh3.n1 (List.mem_singleton.mp z).symm) (fun z => sh3.n2 (List.mem_singleton.mp z).symm), upd_same, sh3.n1, sh3.n2⟩
    have g4 : GoS (sls sl tp ca) H (upd H3 sl (.lst (zerosV m))) := g3.upd (List.mem_cons_self ..)
    revert sh4 g4
    generalize upd H3 sl (.lst (zerosV m)) = H4
    intro sh4 g4
    refine ⟨_, rfl, _, rfl, _, rfl, _, _, rfl, rfl, _, rfl, tp, ca, sl, r, d - 1, m, S, (congrArg (fun z => [V.ref tp, V.int (r : Nat), V.int z, V.ref sl]) (by omega)), by omega, hr1, hr24, by omega, sh4, (fun y hy => g4.k y (hin y hy)), hS1, hS2, hS3, fun H5 v t s' sh5 hs' g5 hv hg hh hn => ⟨(by show 1 ≤ sizeLine; decide), fun a ha => ?_⟩⟩
    have g45 := g4.trans g5
    have ina : InD S H5 := fun y hy => g45.k y (hin y hy)
    refine q _ _ (rowD [t]) s' (sh5.same (same_new ha)) (by omega) (g45.new ha) ⟨a, _, rfl, sqt_offS upd_same (ina.new ha), shf_row (.cons (same_shv (GoD.of (same_new ha)) hv) .nil)⟩ (rowD_good (by show 1 ≤ 6; decide) (fun k hk => by rw [List.mem_singleton.mp hk]; exact hg)) ?_ ?_
    · have := rowD_ht (h := d - 1) [t] (fun k hk => by rw [List.mem_singleton.mp hk]; exact hh)
      omega
    · rw [rowD_nodes]
      unfold ndS
      rw [List.map_singleton, List.sum_singleton]
      omega
  | false =>
  refine iteF ?_
  have hr2 := hb2 rfl
  have in2 : InD S H2 := fun y hy => g2.k y (hin y hy)
  refine ⟨_, rfl, _, rfl, _, _, rfl, rfl, _, _, rfl, tp, ca, min 5 (r - 1), congrArg (fun z => [V.ref tp, V.int z]) (by split <;> omega), sh2.t, by omega, by omega, fun H3 r1 hr1' R3 => ⟨_, _, rfl, rfl, ?_⟩⟩
  have sh3 := sh2.rn R3
  have g3 := g2.trans (R3.sl (sl := sl))
  have in3 : InD S H3 := fun y hy => g3.k y (hin y hy)
  refine ⟨_, rfl, _, rfl, _, _, rfl, rfl, (by show 0 ≤ sizeLine; decide), fun kl hkl => ?_⟩
  have e5 : ((r : Nat) : Int) - (2 + ((r1 : Nat) : Int)) = ((r - (2 + r1) : Nat) : Int) := by omega
  have hklH : H kl = none := g3.free hkl
  have nkl : kl ∉ S := in3.new hkl
  have nks : kl ∉ sls sl tp ca := fun z => nkl (mS kl z)
  have sh4 := sh3.same (same_new (o := .lst []) hkl)
  refine ⟨_, rfl, ((2 + r1 : Nat) : Int), congrArg (fun z => [V.int z]) (by omega), by omega, by omega, for_range (lo := 0) (n := 2 + r1) (fun k σ H' => ∃ (re : Nat) (ts : List Dt) (vs : List V) (s' : Nat) (o7 o8 : Option V), σ = [some (.ref tp), some (.int (r : Nat)), some (.int (d : Nat)), some (.ref sl), some (.int (2 + ((r1 : Nat) : Int))), some (.int (re : Nat)), some (.ref kl), o7, o8] ∧ ShT K H' tp ca sl s' ∧ GoS (sls sl tp ca) H H' ∧ H' kl = some (.lst vs) ∧ Paired (ShV K (offS (kl :: S) H')) vs ts ∧ ts.length = k ∧ (∀ k ∈ ts, k.good 1 = true) ∧ (∀ k ∈ ts, k.ht ≤ d - 1) ∧ s' ≤ sp ∧ re ≤ r - (2 + r1) ∧ ndS ts + k + s' ≤ 2 * (k + (r - (2 + r1) - re)) + sp) ⟨r - (2 + r1), [], [], sp, none, none, (congrArg (fun z => [some (V.ref tp), some (.int (r : Nat)), some (.int (d : Nat)), some (.ref sl), some (.int (2 + ((r1 : Nat) : Int))), some (.int z), some (.ref kl), none, none]) e5), sh4, g3.new hkl, upd_same, .nil, rfl, (fun k h => nomatch h), (fun k h => nomatch h), Nat.le_refl _, Nat.le_refl _, by show 0 + 0 + sp ≤ _; omega⟩ ?_ ?_⟩
  · rintro k σ H' hk ⟨re, ts, vs, s', o7, o8, rfl, sh', g', hl', hp', htl, htg, hth, hs', hre, hnd⟩
    refine ⟨tp, ca, re, rfl, rfl, sh'.t, by omega, fun H4 x R4 hx => ?_⟩
    have sh4 := sh'.rn R4
    have hl4 := R4.at hl' fun z => nks (List.mem_cons_of_mem _ z)
    have m1 : ∀ y ∈ tps tp ca, y ∈ kl :: S := fun y hy => List.mem_cons_of_mem _ (mS y (List.mem_cons_of_mem _ hy))
    have hp4 := pair_mono (fun _ _ h => same_shv (R4.g.d m1) h) hp'
    have g4 := g'.trans (R4.sl (sl := sl))
    have hvl := pair_len hp'
    refine ⟨_, rfl, _, rfl, _, _, rfl, rfl, ?_⟩
    refine ⟨_, rfl, .inl ⟨rfl, _, SqL.of hl4⟩, _, rfl, _, rfl, _, _, rfl, rfl, _, rfl, _, _, rfl, rfl, _, rfl, tp, ca, sl, 1 + x, d - 1, s', kl :: S, (by show [V.ref tp, V.int (1 + ((x : Nat) : Int)), V.int (((d : Nat) : Int) - 1), V.ref sl] = _; rw [show (1 : Int) + ((x : Nat) : Int) = ((1 + x : Nat) : Int) by omega, show ((d : Nat) : Int) - 1 = ((d - 1 : Nat) : Int) by omega]), by omega, by omega, by omega, by omega, sh4, (fun y hy => ?_), List.mem_cons_of_mem _ hS1, List.mem_cons_of_mem _ hS2, List.mem_cons_of_mem _ hS3, fun H5 v t s5 sh5 hs5 g5 hv hg hh hn => ?_⟩
    · rcases List.mem_cons.mp hy with rfl | hy
      · rw [hl4]
        exact fun z => nomatch z
      · exact g4.k y (hin y hy)
    have hl5 := g5.at hl4 nks
    have m2 : ∀ y ∈ sls sl tp ca, y ∈ kl :: S := fun y hy => List.mem_cons_of_mem _ (mS y hy)
    refine ⟨kl, _, _, rfl, rfl, hl5, small1000 (by omega), ?_⟩
    have g6 : GoS (sls sl tp ca) H (upd H5 kl (.lst (vs ++ [v]))) := (g4.trans g5).mutNew hklH
    have gD : GoD (kl :: S) H5 (upd H5 kl (.lst (vs ++ [v]))) := GoD.refl.upd (List.mem_cons_self ..)
    have eS : ((re : Nat) : Int) - (x : Nat) = ((re - x : Nat) : Int) := by omega
    refine ⟨re - x, ts ++ [t], vs ++ [v], s5, _, _, (congrArg (fun z => [some (V.ref tp), some (.int (r : Nat)), some (.int (d : Nat)), some (.ref sl), some (.int (2 + ((r1 : Nat) : Int))), some (.int z), some (.ref kl), some (.int (0 + (k : Int))), some (.int (x : Nat))]) eS), ?_, g6, upd_same, ?_, ?_, ?_, ?_, by omega, by omega, ?_⟩
    · exact ⟨tape_gos sh5.t (GoS.refl.upd (List.mem_singleton.mpr rfl) : GoS [kl] H5 _) (fun z => nks (by rw [← List.mem_singleton.mp z]; exact List.mem_cons_of_mem _ (List.mem_cons_self ..))) (fun z => nks (by rw [← List.mem_singleton.mp z]; exact List.mem_cons_of_mem _ (List.mem_cons_of_mem _ (List.mem_singleton.mpr rfl)))), by rw [upd_ne (fun z => nks (by rw [← z]; exact List.mem_cons_self ..))]; exact sh5.l, sh5.n1, sh5.n2⟩
    · exact pair_app (pair_mono (fun _ _ h => same_shv ((g5.d m2).trans gD) h) hp4) (.cons (same_shv gD hv) .nil)
    · rw [List.length_append, htl]
      rfl
    · intro k' hk'
      rcases List.mem_append.mp hk' with hk' | hk'
      · exact htg k' hk'
      · rw [List.mem_singleton.mp hk']
        exact hg
    · intro k' hk'
      rcases List.mem_append.mp hk' with hk' | hk'
      · exact hth k' hk'
      · rw [List.mem_singleton.mp hk']
        exact hh
    · rw [ndS_app]
      unfold ndS at hnd ⊢
      rw [List.map_singleton, List.sum_singleton]
      omega
  · rintro σ H' ⟨re, ts, vs, s', o7, o8, rfl, sh', g', hl', hp', htl, htg, hth, hs', hre, hnd⟩
    refine ⟨_, rfl, kl, _, rfl, .inl ⟨SqL.of hl', fun a ha => ?_⟩⟩
    have ina : InD S H' := fun y hy => g'.k y (hin y hy)
    refine q _ _ (rowD ts) s' (sh'.same (same_new ha)) hs' (g'.new ha) ⟨a, _, rfl, sqt_offS upd_same (ina.new ha), shf_row (pair_mono (fun _ _ h => same_shv ?_ h) hp')⟩ (rowD_good (by omega) htg) ?_ ?_
    · exact (offS_sub fun y hy => List.mem_cons_of_mem _ hy).trans (GoD.of (same_new ha))
    · have := rowD_ht ts hth
      omega
    · rw [rowD_nodes]
      omega
theorem ok_shape (D : DefAt K mg "_law_shape" s_law_shape ["tape", "room", "deep", "spare"]) (T0 : Txt K mg) (GPick : CalX P w K mg base CX0 1 "_law_pick" ["tape", "many"] (spPick K)) : ∀ n : Nat, CalX P w K mg base CX0 (n + 1) "_law_shape" ["tape", "room", "deep", "spare"] (spShape K n)
  | 0 => by
    obtain ⟨f, fd, F, m, b⟩ := D.ex
    have no : ∀ vs H Q E, ¬ spShape K 0 vs H Q E := fun vs H Q E h => by
      obtain ⟨_, _, _, _, _, _, _, _, h, _⟩ := h
      exact absurd h (Nat.not_lt_zero _)
    exact ⟨f, fd, ⟨fun vs H Q E h => absurd h (no vs H Q E), fun A outer s H args us vs Q E _ _ _ _ h => absurd h (no vs H Q E)⟩, m, F.kp, b, fun_lk F⟩
  | n + 1 => ok_shape_step D T0 GPick (ok_shape D T0 GPick n)
end
end K65
set_option Elab.async false
set_option linter.all false
set_option maxRecDepth 100000
set_option maxHeartbeats 8000000
namespace K65
open PySem PySem.Spec PyProof.Rows L2 Dt
theorem un65 {k : Nat} {A : Around} (hr : Room k A) : A.units + 65 < cLine := by have := hr.un; omega
theorem un70 {k : Nat} {A : Around} (hr : Room k A) : A.units + 70 < cLine := by have := hr.un; omega
theorem op_eqDK {X : Cx} {K : PySem.W.Frag} (e : X.K = K) (hu : X.A.units + 65 < cLine) : OpR X (compareOp .Eq) (rEqD K) := by subst e; exact op_eqD (by omega)
theorem call_len_seqK {X : Cx} {K : PySem.W.Frag} (hK : X.K = K) : CallR X (.builtin "len") (rLenQ K) := by subst hK; exact call_len_seq
theorem pi_listK {X : Cx} {K : PySem.W.Frag} {e tg : Expr} {te : TE} (hK : X.K = K) (he : PE X e te) : PI X tg e (iList K te) := by subst hK; exact pi_list he
/-! ### the law's rows -/
def upI (T : Dt) (q : Ad) : Int := if q = [] then -1 else (T.idx q.dropLast : Nat)
def whI (q : Ad) : Int := match q.getLast? with | some i => (i : Nat) | none => 0
theorem upI_snoc (T : Dt) (q : Ad) (j : Nat) : upI T (q ++ [j]) = (T.idx q : Nat) := by
  unfold upI
  rw [if_neg (by simp), List.dropLast_concat]
theorem whI_snoc (q : Ad) (j : Nat) : whI (q ++ [j]) = (j : Nat) := by
  unfold whI
  rw [List.getLast?_concat]
theorem eqv_leaf (w : Dt) : PyData.eqv (dD w) (.tuple []) = (w.len == 0) := by
  rw [dD_row, PyData.eqv]
  cases w with
  | x => simp [dDs, PyData.eqvAll, Dt.len]
  | o => simp [dDs, PyData.eqvAll, Dt.len]
  | c k r => simp [dDs, PyData.eqvAll, Dt.len]
def r7 (T : Dt) (q : Ad) (fv : V) (k b : Addr) : List (Key × V) := [(Sum.inr "figure", fv), (Sum.inr "above", .int (upI T q)), (Sum.inr "slot", .int (whI q)), (Sum.inr "depth", .int (q.length : Nat)), (Sum.inr "kids", .ref k), (Sum.inr "bag", .ref b), (Sum.inr "low", .int (T.low q : Nat))]
def r9 (T : Dt) (q : Ad) (w : Dt) (fv : V) (k b : Addr) : List (Key × V) := r7 T q fv k b ++ ([(Sum.inr "high", .int (T.low q + w.lf : Nat)), (Sum.inr "end", .int (T.idx q + w.nodes : Nat))] : List (Key × V))
theorem r7_fig (T : Dt) (q : Ad) (fv : V) (k b : Addr) : valV (r7 T q fv k b) (Sum.inr ("figure" : Str)) = some fv := rfl
theorem r7_kids (T : Dt) (q : Ad) (fv : V) (k b : Addr) : valV (r7 T q fv k b) (Sum.inr ("kids" : Str)) = some (.ref k) := rfl
section
variable (T : Dt) (q : Ad) (w : Dt) (fv : V) (k b : Addr)
theorem r9_fig : valV (r9 T q w fv k b) (Sum.inr ("figure" : Str)) = some fv := rfl
theorem r9_above : valV (r9 T q w fv k b) (Sum.inr ("above" : Str)) = some (.int (upI T q)) := rfl
theorem r9_slot : valV (r9 T q w fv k b) (Sum.inr ("slot" : Str)) = some (.int (whI q)) := rfl
theorem r9_depth : valV (r9 T q w fv k b) (Sum.inr ("depth" : Str)) = some (.int (q.length : Nat)) := rfl
theorem r9_kids : valV (r9 T q w fv k b) (Sum.inr ("kids" : Str)) = some (.ref k) := rfl
theorem r9_bag : valV (r9 T q w fv k b) (Sum.inr ("bag" : Str)) = some (.ref b) := rfl
theorem r9_low : valV (r9 T q w fv k b) (Sum.inr ("low" : Str)) = some (.int (T.low q : Nat)) := rfl
theorem r9_high : valV (r9 T q w fv k b) (Sum.inr ("high" : Str)) = some (.int (T.low q + w.lf : Nat)) := rfl
theorem r9_end : valV (r9 T q w fv k b) (Sum.inr ("end" : Str)) = some (.int (T.idx q + w.nodes : Nat)) := rfl
theorem r9_put : putK (putK (r7 T q fv k b) (Sum.inr ("high" : Str)) (.int (T.low q + w.lf : Nat))) (Sum.inr ("end" : Str)) (.int (T.idx q + w.nodes : Nat)) = r9 T q w fv k b := rfl
end
theorem r7_merge (T : Dt) (q : Ad) (fv : V) (k b : Addr) : mergeK [] (r7 T q fv k b) = r7 T q fv k b := rfl
/-- a row of the list, as far as its figure goes -/
def RowF (K : PySem.W.Frag) (S : List Addr) (H : Hp) (T : Dt) (v : V) (a : Ad) : Prop := ∃ r kvs fv w, v = .ref r ∧ H r = some (.dK kvs) ∧ valV kvs (Sum.inr ("figure" : Str)) = some fv ∧ sub T a = some w ∧ ShV K (offS S H) fv w
/-- a row that is whole -/
def RowP (K : PySem.W.Frag) (H : Hp) (T : Dt) (x : Addr × Addr) (a : Ad) : Prop := ∃ k fv w, H x.1 = some (.dK (r9 T a w fv k x.2)) ∧ sub T a = some w ∧ ShV K H fv w ∧ H k = some (.lst (kidV T a w))
theorem RowP.same {K : PySem.W.Frag} {H H' : Hp} {T : Dt} {x : Addr × Addr} {a : Ad} (e : Same H H') (h : RowP K H T x a) : RowP K H' T x a := by
  obtain ⟨k, fv, w, h1, h2, h3, h4⟩ := h
  exact ⟨k, fv, w, e _ _ h1, h2, same_shv e h3, e _ _ h4⟩
theorem offS_more {M N S : List Addr} {H0 H : Hp} (g : GoS M H0 H) (hM : ∀ y ∈ M, y ∈ S) (hN : ∀ y ∈ N, H0 y = none) : Same (offS S H0) (offS (N ++ S) H) := fun y o e => by
  obtain ⟨h1, h2⟩ := offS_some e
  rw [offS_ne fun z => ?_]
  · exact g.at h2 fun z => h1 (hM y z)
  · rcases List.mem_append.mp z with z | z
    · rw [hN y z] at h2
      exact nomatch h2
    · exact h1 z
theorem rowsN_pre (f : Dt → List Ad) (u : Dt) {i : Nat} : ∀ {n : Nat}, i ≤ n → ∃ R, rowsN f u n = rowsN f u i ++ R
  | 0, h => by
    obtain rfl : i = 0 := by omega
    exact ⟨[], rfl⟩
  | n + 1, h => by
    by_cases c : i = n + 1
    · subst c
      exact ⟨[], (List.append_nil _).symm⟩
    · obtain ⟨R, hR⟩ := rowsN_pre f u (i := i) (n := n) (by omega)
      refine ⟨R ++ (match u.kids[n]? with | some k => (f k).map (List.cons n) | none => []), ?_⟩
      show rowsN f u n ++ _ = _
      rw [hR, List.append_assoc]
      all_goals rfl
/-- the addresses up to the j-th child -/
theorem ad_upto {T u : Dt} {q : Ad} (hu : sub T q = some u) {j : Nat} (hj : j ≤ u.len) : (ad T).take (T.idx q + (1 + (rowsN ad u j).length)) = (ad T).take (T.idx q) ++ q :: (rowsN ad u j).map (q ++ ·) := by
  obtain ⟨A, B, e, hl, _, _⟩ := block T q u hu
  obtain ⟨R, hR⟩ := rowsN_pre ad u hj
  rw [e, ad_rows u, hR, ← hl]
  rw [List.take_append, List.take_of_length_le (Nat.le_add_right _ _), Nat.add_sub_cancel_left]
  rw [List.take_append_of_le_length (Nat.le_refl _), List.take_length]
  congr 1
  rw [List.map_cons, List.map_append, List.append_nil, List.cons_append, List.append_assoc, Nat.add_comm 1, List.take_succ_cons]
  congr 1
  rw [List.take_append_of_le_length (by rw [List.length_map]; exact Nat.le_refl _), List.take_of_length_le (by rw [List.length_map]; exact Nat.le_refl _)]
theorem ad_len1 (u : Dt) : 1 + (rowsN ad u u.len).length = u.nodes := by
  have h := ad_len u
  rw [ad_rows u, List.length_cons] at h
  omega
theorem cnt_blk {T u : Dt} {q : Ad} (hu : sub T q = some u) : (((ad T).take (T.idx q + u.nodes)).filter (isLf T)).length = T.low q + u.lf := by
  rw [← ad_len1 u, ad_upto hu (Nat.le_refl _), List.filter_append, List.length_append]
  have e : q :: (rowsN ad u u.len).map (q ++ ·) = (ad u).map (q ++ ·) := by
    rw [ad_rows u, List.map_cons, List.append_nil]
  rw [e, filter_blk hu, List.length_map]
  rfl
theorem rowF_of {K : PySem.W.Frag} {S S' : List Addr} {H : Hp} {T : Dt} {RB : List (Addr × Addr)} {as : List Ad} (h : ∀ y ∈ S, y ∈ S') (g : Paired (RowP K (offS S' H) T) RB as) : Paired (RowF K S H T) (RB.map fun x => V.ref x.1) as := by
  induction g with
  | nil => exact .nil
  | cons r t ih =>
    obtain ⟨k, fv, w, h1, h2, h3, h4⟩ := r
    exact .cons ⟨_, _, fv, w, rfl, (offS_some h1).2, r9_fig .., h2, same_shv (offS_sub h) h3⟩ ih
theorem kid_take {T w : Dt} {q : Ad} {j : Nat} (h : j < w.len) : (kidV T q w).take (j + 1) = (kidV T q w).take j ++ [V.int (T.idx (q ++ [j]) : Nat)] := by
  rw [List.take_add_one, kidV_at h]
  rfl
theorem kidV_len (T : Dt) (q : Ad) (w : Dt) : (kidV T q w).length = w.len := by
  unfold kidV
  rw [List.length_map, List.length_range]
/-- a test of a row's figure -/
def tLf (K : PySem.W.Frag) (i : Nat) : TT := fun σ H Q => ∃ (r : Addr) (kvs : List (Key × V)) (fv : V) (w : Dt) (S : List Addr), σ[i]? = some (some (.ref r)) ∧ H r = some (.dK kvs) ∧ valV kvs (Sum.inr ("figure" : Str)) = some fv ∧ ShV K (offS S H) fv w ∧ w.ht < 20 ∧ ∀ H', Same H H' → Q (w.len == 0) H'
/-- how many rows are of queues -/
def tCnt (K : PySem.W.Frag) : TE := fun σ H Q => ∃ (sp : Addr) (Rs : List V) (S : List Addr) (T : Dt) (m : Nat) (o0 o1 o2 o3 o5 o6 o7 o8 o9 : Option V), σ = [o0, o1, o2, o3, some (.ref sp), o5, o6, o7, o8, o9] ∧ H sp = some (.lst Rs) ∧ Paired (RowF K S H T) Rs ((ad T).take m) ∧ T.ht < 20 ∧ Rs.length ≤ 900 ∧ ∀ H', Same H H' → Q (.int ((((ad T).take m).filter (isLf T)).length : Nat)) H'
section
variable {P : Program} {w : World} {K : PySem.W.Frag} {mg : Str → Option Value} {base : Heap}
def spSpots (K : PySem.W.Frag) (n : Nat) : Sp := fun vs H Q _ => ∃ (fv : V) (T u : Dt) (q : Ad) (sp : Addr) (Rs : List V) (S : List Addr), vs = [fv, .int (upI T q), .int (whI q), .int (q.length : Nat), .ref sp] ∧ sub T q = some u ∧ u.ht < n ∧ T.nodes ≤ 100 ∧ T.ht < 20 ∧ InD S H ∧ sp ∈ S ∧ ShV K (offS S H) fv u ∧ H sp = some (.lst Rs) ∧ Paired (RowF K S H T) Rs ((ad T).take (T.idx q)) ∧
  ∀ H' (RB : List (Addr × Addr)), GoS [sp] H H' → H' sp = some (.lst (Rs ++ RB.map fun x => V.ref x.1)) → (∀ x ∈ RB, H x.2 = none) → (RB.map Prod.snd).Nodup → Paired (RowP K (offS (RB.map Prod.snd ++ S) H') T) RB ((ad u).map (q ++ ·)) → (∀ x ∈ RB, H' x.2 = some (.lst [])) → Q (.ref sp) H'
theorem ok_spots_step {n : Nat} (D : DefAt K mg "_law_spots" s_law_spots ["figure", "above", "slot", "depth", "spots"]) (T0 : Txt K mg) (GSpots : CalX P w K mg base CX0 n "_law_spots" ["figure", "above", "slot", "depth", "spots"] (spSpots K n)) : CalX P w K mg base CX0 (n + 1) "_law_spots" ["figure", "above", "slot", "depth", "spots"] (spSpots K (n + 1)) := by
  refine D.ok sc_law_spots (fun vs H Q E h => ?_) (fun f cdv A outer s H vs Q E hr h => ?_)
  · obtain ⟨fv, T, u, q, sp, Rs, S, rfl, _⟩ := h
    rfl
  obtain ⟨fv, T, u, q, sp, Rs, S, rfl, hu0, hun, hno, hht, hin, hspS, hfv, hsp, hrs, qq⟩ := h
  have hu := hu_of hr
  refine ⟨_, (pss_cons (ps_set (i := 5) sc_law_spots.nd rfl (.inl rfl) (pe_callB call_len_seq (by rfl) T0.len PySem.boot_len (pa_cons (pv 4) pa_nil))) 
    (pss_cons (ps_set (i := 7) sc_law_spots.nd rfl (.inl rfl) (pe_conv (t' := tCnt K) (pe_callB call_len_seq (by rfl) T0.len PySem.boot_len (pa_cons (pe_lc (own := [("row", 6)]) (g := gName 6) (by rfl) sc_law_spots.nd (pi_list (pv 4)) (blkOk_by (own := [("row", 6)]) (N := N_law_spots) (sc := defScope s_law_spots) (by decide +kernel)) (fun _ _ _ _ _ => pg_name (i := 6) sc_law_spots.nd rfl (Or.inl rfl)) (fun _ _ _ _ _ => by exact (pts_one (pt_conv (t' := tLf K 6) (pt_cmpR (op_eqDK (K := K) (by exact rfl) (un65 hr)) (pe_dget hu (pv 6) pe_str (fun _ _ => rfl)) (pe_tup pa_nil) (nomark _)) (by
          rintro σ H Q ⟨r, kvs, fv, w, S, hi, hr, hv, hs, hh, k⟩
          refine ⟨_, hi, r, fv, rfl, (hv ▸ DGet.k (k := Sum.inr ("figure" : Str)) hr), (by show 0 ≤ sizeLine; decide), fun e he => ?_⟩
          have s1 := same_new (o := .tup []) he
          have hw : Dp K (upd H e (.tup [])) fv (dD w) := dp_same s1 (dp_same offS_same (shv_dp hs))
          refine ⟨dD w, .tuple [], hw, .tup (SqT.of upd_same) .nil, (shp_dD 20 w hh).ok (by decide), (shp_tup (n := 1) (ds := []) fun e he => by cases he).ok (by decide), _, rfl, ?_⟩
          rw [eqv_leaf]
          exact k _ s1)))) (fun _ _ _ _ _ => by exact (pv 6))) pa_nil)) (by
      rintro σ H Q ⟨sp, Rs, S, T, m, o0, o1, o2, o3, o5, o6, o7, o8, o9, rfl, hsp, hpr, hT, hl, k⟩
      refine ⟨_, rfl, sp, rfl, ⟨_, SqL.of hsp⟩, fun Dl hDl => lc_list (K := K) (a := sp) (xs := Rs) (fun i H' => Same H H' ∧ ∃ acc : List V, H' Dl = some (.lst acc) ∧ acc.length = (((ad T).take (min i m)).filter (isLf T)).length) ⟨same_new hDl, [], upd_same, by rw [Nat.zero_min]; rfl⟩ (fun i H' _ ⟨s, _⟩ => SqL.of (s _ _ hsp)) ?_ ?_⟩
      · rintro i x H' hx ⟨s', acc, hD, hal⟩
        have hil := (List.getElem?_eq_some_iff.mp hx).1
        have hrl := pair_len hpr
        have hi2 : ((ad T).take m)[i]? = some (((ad T).take m)[i]'(by omega)) := List.getElem?_eq_getElem (by omega)
        generalize ((ad T).take m)[i]'(by omega) = q at hi2
        obtain ⟨x', e1, r, kvs, fv, w, rfl, h1, h2, h3, h4⟩ := pair_idx hpr hi2
        rw [hx] at e1
        obtain rfl := Option.some.inj e1
        have him : i < m := by
          rw [List.length_take] at hrl
          omega
        have eq1 : (ad T)[i]? = some q := by rw [← hi2, List.getElem?_take_of_lt him]
        have etk : (ad T).take (i + 1) = (ad T).take i ++ [q] := by rw [List.take_add_one, eq1]; rfl
        refine ⟨rfl, ?_⟩
        refine ⟨r, kvs, fv, w, S, rfl, s' _ _ h1, h2, same_shv (GoD.of s') h4, Nat.lt_of_le_of_lt (ht_le h3) hT, fun H2 s2 => ?_⟩
        have hlf : isLf T q = (w.len == 0) := isLf_o h3
        by_cases c : (w.len == 0) = true
        · rw [c]
          refine iteT ⟨_, rfl, acc, s2 _ _ hD, small1000 (by have := List.length_filter_le (isLf T) ((ad T).take (min i m)); rw [List.length_take] at this; omega), same_mut (s'.trans s2) hDl, _, upd_same, ?_⟩
          rw [List.length_append, hal, show min i m = i by omega, show min (i + 1) m = i + 1 by omega, etk, List.filter_append, List.length_append]
          congr 1
          rw [List.filter_cons_of_pos (by rw [hlf, c])]
          rfl
        · have c' : (w.len == 0) = false := by simpa using c
          rw [c']
          refine iteF ⟨s'.trans s2, acc, s2 _ _ hD, ?_⟩
          rw [hal, show min i m = i by omega, show min (i + 1) m = i + 1 by omega, etk, List.filter_append, List.length_append, List.filter_cons_of_neg (by rw [hlf, c']; simp)]
          rfl
      · rintro H' ⟨s', acc, hD, hal⟩
        have hrl := pair_len hpr
        rw [List.length_take] at hrl
        refine ⟨Dl, _, rfl, .inl (SqL.of hD), ?_⟩
        rw [hal]
        have e : (ad T).take (min Rs.length m) = (ad T).take m := by
          by_cases c : m ≤ (ad T).length
          · rw [show min Rs.length m = m by omega]
          · rw [List.take_of_length_le (by omega), List.take_of_length_le (by omega)]
        rw [e]
        exact k _ s'))) 
    (pss_cons (ps_expr (pe_bm PySem.F.plainAttrs_list PySem.F.slot_list_append PySem.F.type_list_append mt_append (pv 4) (pa_cons (pe_disp (pps_cons pe_str (pv 0) (pps_cons pe_str (pv 1) (pps_cons pe_str (pv 2) (pps_cons pe_str (pv 3) (pps_cons pe_str (pe_lst pa_nil) (pps_cons pe_str (pe_lst pa_nil) (pps_cons pe_str (pv 7) pps_nil))))))) (by rfl) (by rfl) (by exact fun z => nomatch z) (by show 7 ≤ 15; decide)) pa_nil))) 
    (pss_cons (ps_set (i := 6) sc_law_spots.nd rfl (.inl rfl) (pe_ix ix_list (pv 4) (pv 5) (fun _ _ => rfl))) 
    (pss_cons (ps_for PassesOwn.never rfl (pi_range1 (by rfl) T0.range (pa_cons (pe_callB call_len_seq (by rfl) T0.len PySem.boot_len (pa_cons (pv 0) pa_nil)) pa_nil)) (pg_name (i := 8) sc_law_spots.nd rfl (Or.inl rfl)) 
      (pss_cons (ps_expr (pe_bm PySem.F.plainAttrs_list PySem.F.slot_list_append PySem.F.type_list_append mt_append (pe_dget hu (pv 6) pe_str (fun _ _ => rfl)) (pa_cons (pe_callB call_len_seq (by rfl) T0.len PySem.boot_len (pa_cons (pv 4) pa_nil)) pa_nil))) 
      (pss_one (ps_expr (pe_c0 GSpots hr (Nat.le_refl _) rfl (pa_cons (pe_ix ix_seq (pv 0) (pv 8) (fun _ _ => rfl)) (pa_cons (pv 5) (pa_cons (pv 8) (pa_cons (pe_op op_add (pv 3) pe_int) (pa_cons (pv 4) pa_nil)))))))))) 
    (pss_cons (ps_dput hu (pv 6) pe_str (pe_conv (t' := tCnt K) (pe_callB call_len_seq (by rfl) T0.len PySem.boot_len (pa_cons (pe_lc (own := [("other", 9)]) (g := gName 9) (by rfl) sc_law_spots.nd (pi_list (pv 4)) (blkOk_by (own := [("other", 9)]) (N := N_law_spots) (sc := defScope s_law_spots) (by decide +kernel)) (fun _ _ _ _ _ => pg_name (i := 9) sc_law_spots.nd rfl (Or.inl rfl)) (fun _ _ _ _ _ => by exact (pts_one (pt_conv (t' := tLf K 9) (pt_cmpR (op_eqDK (K := K) (by exact rfl) (un65 hr)) (pe_dget hu (pv 9) pe_str (fun _ _ => rfl)) (pe_tup pa_nil) (nomark _)) (by
          rintro σ H Q ⟨r, kvs, fv, w, S, hi, hr, hv, hs, hh, k⟩
          refine ⟨_, hi, r, fv, rfl, (hv ▸ DGet.k (k := Sum.inr ("figure" : Str)) hr), (by show 0 ≤ sizeLine; decide), fun e he => ?_⟩
          have s1 := same_new (o := .tup []) he
          have hw : Dp K (upd H e (.tup [])) fv (dD w) := dp_same s1 (dp_same offS_same (shv_dp hs))
          refine ⟨dD w, .tuple [], hw, .tup (SqT.of upd_same) .nil, (shp_dD 20 w hh).ok (by decide), (shp_tup (n := 1) (ds := []) fun e he => by cases he).ok (by decide), _, rfl, ?_⟩
          rw [eqv_leaf]
          exact k _ s1)))) (fun _ _ _ _ _ => by exact (pv 9))) pa_nil)) (by
      rintro σ H Q ⟨sp, Rs, S, T, m, o0, o1, o2, o3, o5, o6, o7, o8, o9, rfl, hsp, hpr, hT, hl, k⟩
      refine ⟨_, rfl, sp, rfl, ⟨_, SqL.of hsp⟩, fun Dl hDl => lc_list (K := K) (a := sp) (xs := Rs) (fun i H' => Same H H' ∧ ∃ acc : List V, H' Dl = some (.lst acc) ∧ acc.length = (((ad T).take (min i m)).filter (isLf T)).length) ⟨same_new hDl, [], upd_same, by rw [Nat.zero_min]; rfl⟩ (fun i H' _ ⟨s, _⟩ => SqL.of (s _ _ hsp)) ?_ ?_⟩
      · rintro i x H' hx ⟨s', acc, hD, hal⟩
        have hil := (List.getElem?_eq_some_iff.mp hx).1
        have hrl := pair_len hpr
        have hi2 : ((ad T).take m)[i]? = some (((ad T).take m)[i]'(by omega)) := List.getElem?_eq_getElem (by omega)
        generalize ((ad T).take m)[i]'(by omega) = q at hi2
        obtain ⟨x', e1, r, kvs, fv, w, rfl, h1, h2, h3, h4⟩ := pair_idx hpr hi2
        rw [hx] at e1
        obtain rfl := Option.some.inj e1
        have him : i < m := by
          rw [List.length_take] at hrl
          omega
        have eq1 : (ad T)[i]? = some q := by rw [← hi2, List.getElem?_take_of_lt him]
        have etk : (ad T).take (i + 1) = (ad T).take i ++ [q] := by rw [List.take_add_one, eq1]; rfl
        refine ⟨rfl, ?_⟩
        refine ⟨r, kvs, fv, w, S, rfl, s' _ _ h1, h2, same_shv (GoD.of s') h4, Nat.lt_of_le_of_lt (ht_le h3) hT, fun H2 s2 => ?_⟩
        have hlf : isLf T q = (w.len == 0) := isLf_o h3
        by_cases c : (w.len == 0) = true
        · rw [c]
          refine iteT ⟨_, rfl, acc, s2 _ _ hD, small1000 (by have := List.length_filter_le (isLf T) ((ad T).take (min i m)); rw [List.length_take] at this; omega), same_mut (s'.trans s2) hDl, _, upd_same, ?_⟩
          rw [List.length_append, hal, show min i m = i by omega, show min (i + 1) m = i + 1 by omega, etk, List.filter_append, List.length_append]
          congr 1
          rw [List.filter_cons_of_pos (by rw [hlf, c])]
          rfl
        · have c' : (w.len == 0) = false := by simpa using c
          rw [c']
          refine iteF ⟨s'.trans s2, acc, s2 _ _ hD, ?_⟩
          rw [hal, show min i m = i by omega, show min (i + 1) m = i + 1 by omega, etk, List.filter_append, List.length_append, List.filter_cons_of_neg (by rw [hlf, c']; simp)]
          rfl
      · rintro H' ⟨s', acc, hD, hal⟩
        have hrl := pair_len hpr
        rw [List.length_take] at hrl
        refine ⟨Dl, _, rfl, .inl (SqL.of hD), ?_⟩
        rw [hal]
        have e : (ad T).take (min Rs.length m) = (ad T).take m := by
          by_cases c : m ≤ (ad T).length
          · rw [show min Rs.length m = m by omega]
          · rw [List.take_of_length_le (by omega), List.take_of_length_le (by omega)]
        rw [e]
        exact k _ s')) rfl) 
    (pss_cons (ps_dput hu (pv 6) pe_str (pe_callB call_len_seq (by rfl) T0.len PySem.boot_len (pa_cons (pv 4) pa_nil)) rfl) 
    (pss_one (ps_ret (pv 4)))))))))), ?_⟩
  have hsl := sizeLine_eq
  have hil := idx_lt hu0
  have hup := u.nodes_pos
  have hrl := pair_len hrs
  have hadl := ad_len T
  rw [List.length_take] at hrl
  have hRl : Rs.length = T.idx q := by omega
  refine ⟨_, rfl, sp, _, rfl, .inl (SqL.of hsp), ?_⟩
  rw [hRl]
  refine ⟨sp, Rs, S, T, T.idx q, _, _, _, _, _, _, _, _, _, rfl, hsp, hrs, hht, by omega, fun H1 s1 => ?_⟩
  have hsp1 := s1 _ _ hsp
  refine ⟨_, rfl, .inl ⟨rfl, _, SqL.of hsp1⟩, fun p hp => ?_⟩
  refine ⟨_, rfl, _, rfl, _, rfl, _, rfl, (by show 0 ≤ sizeLine; decide), fun k hk => ⟨(by show 0 ≤ sizeLine; decide), fun b hb => ⟨_, rfl, ?_⟩⟩⟩
  have pH : H p = none := s1.free hp
  have kp : k ≠ p := fun z => by
    rw [z, upd_same] at hk
    exact nomatch hk
  have k1 : H1 k = none := by
    rw [upd_ne kp] at hk
    exact hk
  have kH : H k = none := s1.free k1
  have bk : b ≠ k := fun z => by
    rw [z, upd_same] at hb
    exact nomatch hb
  rw [upd_ne bk] at hb
  have bp : b ≠ p := fun z => by
    rw [z, upd_same] at hb
    exact nomatch hb
  rw [upd_ne bp] at hb
  have bH : H b = none := s1.free hb
  have sS : ∀ {y o}, H1 y = some o → y ≠ p ∧ y ≠ k ∧ y ≠ b := fun {y o} e => ⟨ne_of_none e hp, ne_of_none e k1, ne_of_none e hb⟩
  refine ⟨(by rw [upd_ne (Ne.symm bp), upd_ne (Ne.symm kp), upd_same]), r7 T q fv k b, rfl, by show 7 ≤ 15; decide, ?_⟩
  rw [r7_merge]
  have hspd : (upd (upd (upd (upd H1 p (.dK [])) k (.lst [])) b (.lst [])) p (.dK (r7 T q fv k b))) sp = some (.lst Rs) := by
    obtain ⟨z1, z2, z3⟩ := sS hsp1
    rw [upd_ne z1, upd_ne z3, upd_ne z2, upd_ne z1]
    exact hsp1
  refine ⟨sp, _, _, rfl, rfl, hspd, by omega, ?_⟩
  obtain ⟨H3, e3⟩ : ∃ H3, H3 = upd (upd (upd (upd (upd H1 p (.dK [])) k (.lst [])) b (.lst [])) p (.dK (r7 T q fv k b))) sp (.lst (Rs ++ [.ref p])) := ⟨_, rfl⟩
  obtain ⟨sp1, sp2, sp3⟩ := sS hsp1
  have p3 : H3 p = some (.dK (r7 T q fv k b)) := by rw [e3, upd_ne (Ne.symm sp1), upd_same]
  have k3 : H3 k = some (.lst []) := by rw [e3, upd_ne (Ne.symm sp2), upd_ne kp, upd_ne (Ne.symm bk), upd_same]
  have b3 : H3 b = some (.lst []) := by rw [e3, upd_ne (Ne.symm sp3), upd_ne bp, upd_same]
  have sp3' : H3 sp = some (.lst (Rs ++ [.ref p])) := by rw [e3, upd_same]
  have g3 : GoS [sp] H H3 := by
    rw [e3]
    exact ((((((GoS.of s1).mutNew pH).mutNew kH).mutNew bH).mutNew pH)).upd (List.mem_singleton.mpr rfl)
  rw [← e3]
  clear e3
  refine ⟨_, rfl, _, rfl, sp, _, _, _, rfl, rfl, SqL.of sp3', atI_nat (j := T.idx q) (by rw [List.getElem?_append_right (by omega), hRl, Nat.sub_self]; rfl), ?_⟩
  obtain ⟨fa, fvs, rfl, hfa, hfs⟩ := hfv
  have hfl := hfs.len
  -- what is figured stands as before
  obtain ⟨S1, hS1⟩ : ∃ S1, S1 = p :: k :: b :: S := ⟨_, rfl⟩
  have pS : p ∈ S1 := by rw [hS1]; exact List.mem_cons_self ..
  have kS : k ∈ S1 := by rw [hS1]; exact List.mem_cons_of_mem _ (List.mem_cons_self ..)
  have bS : b ∈ S1 := by rw [hS1]; exact List.mem_cons_of_mem _ (List.mem_cons_of_mem _ (List.mem_cons_self ..))
  have SS : ∀ y ∈ S, y ∈ S1 := fun y hy => by rw [hS1]; exact List.mem_cons_of_mem _ (List.mem_cons_of_mem _ (List.mem_cons_of_mem _ hy))
  have oldN : ∀ {H'} {RB : List (Addr × Addr)}, GoS [sp] H H' → (∀ x ∈ RB, H x.2 = none) → Same (offS S H) (offS (RB.map Prod.snd ++ S1) H') := fun {H' RB} g hn => by
    have := offS_more (N := RB.map Prod.snd ++ [p, k, b]) g (S := S) (fun y hy => by rw [List.mem_singleton.mp hy]; exact hspS) fun y hy => by
      rcases List.mem_append.mp hy with hy | hy
      · obtain ⟨x, hx, rfl⟩ := List.mem_map.mp hy
        exact hn x hx
      rcases List.mem_cons.mp hy with rfl | hy
      · exact pH
      rcases List.mem_cons.mp hy with rfl | hy
      · exact kH
      · rw [List.mem_singleton.mp hy]
        exact bH
    rw [hS1]
    rw [List.append_assoc] at this
    exact this
  have rsN : ∀ {H'} {RB : List (Addr × Addr)}, GoS [sp] H H' → (∀ x ∈ RB, H x.2 = none) → Paired (RowF K (RB.map Prod.snd ++ S1) H' T) Rs ((ad T).take (T.idx q)) := fun {H' RB} g hn => pair_mono (fun v a h => by
    obtain ⟨r, kvs, f1, w, rfl, h1, h2, h3, h4⟩ := h
    refine ⟨r, kvs, f1, w, rfl, g.at h1 (fun z => ?_), h2, h3, same_shv (oldN g hn) h4⟩
    rw [List.mem_singleton.mp z, hsp] at h1
    exact nomatch h1) hrs
  refine ⟨_, rfl, fa, fvs, rfl, .inr (same_sqt offS_same (same_sqt (oldN (RB := []) g3 (fun x h => nomatch h)) hfa)), ?_⟩
  rw [hfl]
  have hul := len_lt_nodes u
  refine ⟨_, rfl, by omega, by omega, for_range (lo := 0) (n := u.len) (fun j σ H' => ∃ (o8 : Option V) (RB : List (Addr × Addr)), σ = [some (.ref fa), some (.int (upI T q)), some (.int (whI q)), some (.int (q.length : Nat)), some (.ref sp), some (.int (T.idx q : Nat)), some (.ref p), some (.int (T.low q : Nat)), o8, none] ∧ GoS [sp] H H' ∧ H' p = some (.dK (r7 T q (.ref fa) k b)) ∧ H' k = some (.lst ((kidV T q u).take j)) ∧ H' b = some (.lst []) ∧ H' sp = some (.lst (Rs ++ .ref p :: RB.map fun x => V.ref x.1)) ∧ (∀ x ∈ RB, H x.2 = none ∧ H' x.2 = some (.lst []) ∧ x.2 ∉ S1) ∧ (RB.map Prod.snd).Nodup ∧ Paired (RowP K (offS (RB.map Prod.snd ++ S1) H') T) RB ((rowsN ad u j).map (q ++ ·))) ⟨none, [], rfl, g3, p3, k3, b3, sp3', (fun x h => nomatch h), List.nodup_nil, .nil⟩ ?_ ?_⟩
  · rintro j σ H' hj ⟨o8, RB, rfl, g', p', k', b', sp', hRB, hnd, hP⟩
    obtain ⟨uj, huj⟩ := kid_of hj
    have hsub : sub T (q ++ [j]) = some uj := by rw [(sub_app T q u hu0 [j]).1, sub_one]; exact huj
    have hidx : T.idx (q ++ [j]) = T.idx q + (1 + (rowsN ad u j).length) := by rw [(sub_app T q u hu0 [j]).2, idx_rows u j hj]
    have hPl := pair_len hP
    rw [List.length_map] at hPl
    have hll : (Rs ++ V.ref p :: RB.map fun x => V.ref x.1).length = T.idx (q ++ [j]) := by
      rw [List.length_append, List.length_cons, List.length_map, hRl, hidx, hPl]
      omega
    have hjl := idx_lt hsub
    -- the children's row grows
    refine ⟨_, rfl, p, .ref k, rfl, (r7_kids T q (.ref fa) k b ▸ DGet.k (k := Sum.inr ("kids" : Str)) p'), .inl ⟨rfl, _, SqL.of k'⟩, _, rfl, sp, _, rfl, .inl (SqL.of sp'), k, _, _, rfl, rfl, k', (by rw [List.length_take, kidV_len]; omega), ?_⟩
    rw [hll, ← kid_take hj]
    have p4 : (upd H' k (.lst ((kidV T q u).take (j + 1)))) p = some (.dK (r7 T q (.ref fa) k b)) := by rw [upd_ne (Ne.symm kp)]; exact p'
    have k4 : (upd H' k (.lst ((kidV T q u).take (j + 1)))) k = some (.lst ((kidV T q u).take (j + 1))) := upd_same
    have b4 : (upd H' k (.lst ((kidV T q u).take (j + 1)))) b = some (.lst []) := by rw [upd_ne bk]; exact b'
    have sp4 : (upd H' k (.lst ((kidV T q u).take (j + 1)))) sp = some (.lst (Rs ++ V.ref p :: RB.map fun x => V.ref x.1)) := by rw [upd_ne sp2]; exact sp'
    have g4 : GoS [sp] H (upd H' k (.lst ((kidV T q u).take (j + 1)))) := g'.mutNew kH
    have gk : GoS [k] H' (upd H' k (.lst ((kidV T q u).take (j + 1)))) := GoS.refl.upd (List.mem_singleton.mpr rfl)
    have kSS : ∀ y ∈ [k], y ∈ RB.map Prod.snd ++ S1 := fun y hy => by rw [List.mem_singleton.mp hy]; exact List.mem_append_right _ kS
    have hP4 := pair_mono (fun _ _ h => RowP.same (gk.d kSS) h) hP
    have hRB4 : ∀ x ∈ RB, (upd H' k (.lst ((kidV T q u).take (j + 1)))) x.2 = some (.lst []) := fun x hx => by
      rw [upd_ne fun z => (hRB x hx).2.2 (by rw [z]; exact kS)]
      exact (hRB x hx).2.1
    revert p4 k4 b4 sp4 g4 hP4 hRB4
    generalize upd H' k (.lst ((kidV T q u).take (j + 1))) = H4
    intro p4 k4 b4 sp4 g4 hP4 hRB4
    have in2 : InD (RB.map Prod.snd ++ S1) H4 := fun y hy => by
      rcases List.mem_append.mp hy with hy | hy
      · obtain ⟨x, hx, rfl⟩ := List.mem_map.mp hy
        rw [hRB4 x hx]
        exact fun z => nomatch z
      · rw [hS1] at hy
        rcases List.mem_cons.mp hy with rfl | hy
        · rw [p4]; exact fun z => nomatch z
        rcases List.mem_cons.mp hy with rfl | hy
        · rw [k4]; exact fun z => nomatch z
        rcases List.mem_cons.mp hy with rfl | hy
        · rw [b4]; exact fun z => nomatch z
        · exact g4.k y (hin y hy)
    have old2 := oldN g4 (RB := RB) (fun x hx => (hRB x hx).1)
    have hfa2 := same_sqt old2 hfa
    have hsf2 : ShF K (offS (RB.map Prod.snd ++ S1) H4) fvs u := hfs.keep (KeepT.of_same old2)
    obtain ⟨vj, hvj⟩ : ∃ vj, fvs[j]? = some vj := ⟨_, List.getElem?_eq_getElem (by omega)⟩
    obtain ⟨kj, e1, hkj⟩ := hsf2.at j vj hvj
    rw [huj] at e1
    obtain rfl := Option.some.inj e1
    have hkh := ht_kid u j uj huj
    refine ⟨_, rfl, _, rfl, .inr (.inl ⟨fa, fvs, _, _, rfl, rfl, same_sqt offS_same hfa2, (by rw [Int.zero_add]; exact atI_nat hvj), _, rfl, _, rfl, _, rfl, _, _, rfl, rfl, _, rfl, ?_⟩)⟩
    refine ⟨vj, T, uj, q ++ [j], sp, _, RB.map Prod.snd ++ S1, ?_, hsub, by omega, hno, hht, in2, List.mem_append_right _ (SS sp hspS), hkj, sp4, ?_, fun H5 RB2 g5 sp5 hn5 hd5 hP5 he5 => ?_⟩
    · rw [upI_snoc, whI_snoc, List.length_append, List.length_singleton, Int.zero_add]
      rfl
    · rw [hidx, ad_upto hu0 (Nat.le_of_lt hj)]
      exact pair_app (rsN g4 (fun x hx => (hRB x hx).1)) (.cons ⟨p, _, .ref fa, u, rfl, p4, r7_fig .., hu0, ⟨fa, fvs, rfl, hfa2, hsf2⟩⟩ (rowF_of (fun y hy => hy) hP4))
    have nsp : ∀ {y o}, H4 y = some o → y ≠ sp → H5 y = some o := fun h n => g5.at h fun z => n (List.mem_singleton.mp z)
    have spS2 : ∀ y ∈ [sp], y ∈ RB.map Prod.snd ++ S1 := fun y hy => by rw [List.mem_singleton.mp hy]; exact List.mem_append_right _ (SS sp hspS)
    have hRs : ∀ y ∈ (RB ++ RB2).map Prod.snd ++ S1, y ∈ RB2.map Prod.snd ++ (RB.map Prod.snd ++ S1) := fun y hy => by
      rw [List.map_append] at hy
      rcases List.mem_append.mp hy with hy | hy
      · rcases List.mem_append.mp hy with hy | hy
        · exact List.mem_append_right _ (List.mem_append_left _ hy)
        · exact List.mem_append_left _ hy
      · exact List.mem_append_right _ (List.mem_append_right _ hy)
    refine ⟨_, RB ++ RB2, rfl, g4.trans g5, nsp p4 (Ne.symm sp1), nsp k4 (Ne.symm sp2), nsp b4 (Ne.symm sp3), ?_, ?_, ?_, ?_⟩
    · rw [sp5, List.map_append, List.append_assoc, List.cons_append]
    · intro x hx
      rcases List.mem_append.mp hx with hx | hx
      · exact ⟨(hRB x hx).1, nsp (hRB4 x hx) (fun z => (hRB x hx).2.2 (by rw [z]; exact SS sp hspS)), (hRB x hx).2.2⟩
      · exact ⟨g4.free (hn5 x hx), he5 x hx, fun z => in2 _ (List.mem_append_right _ z) (hn5 x hx)⟩
    · rw [List.map_append]
      refine List.nodup_append.mpr ⟨hnd, hd5, fun y hy z hz e => ?_⟩
      obtain ⟨x, hx, rfl⟩ := List.mem_map.mp hz
      exact in2 _ (List.mem_append_left _ (e ▸ hy)) (hn5 x hx)
    · rw [rowsN_succ ad huj q]
      exact pair_app (pair_mono (fun _ _ h => RowP.same ((offS_more g5 spS2 (fun y hy => by
        obtain ⟨x, hx, rfl⟩ := List.mem_map.mp hy
        exact hn5 x hx)).trans (offS_sub hRs)) h) hP4) (pair_mono (fun _ _ h => RowP.same (offS_sub hRs) h) hP5)
  · rintro σ H' ⟨o8, RB, rfl, g', p', k', b', sp', hRB, hnd, hP⟩
    have hPl := pair_len hP
    have hal := ad_len1 u
    rw [List.length_map] at hPl
    have hll : (Rs ++ V.ref p :: RB.map fun x => V.ref x.1).length = T.idx q + u.nodes := by
      rw [List.length_append, List.length_cons, List.length_map, hRl, hPl]
      omega
    have old2 := oldN g' (RB := RB) (fun x hx => (hRB x hx).1)
    have hfa2 := same_sqt old2 hfa
    have hsf2 : ShF K (offS (RB.map Prod.snd ++ S1) H') fvs u := hfs.keep (KeepT.of_same old2)
    refine ⟨sp, _, RB.map Prod.snd ++ S1, T, T.idx q + u.nodes, _, _, _, _, _, _, _, _, _, rfl, sp', ?_, hht, by omega, fun H7 s7 => ?_⟩
    · rw [← hal, ad_upto hu0 (Nat.le_refl _)]
      exact pair_app (rsN g' (fun x hx => (hRB x hx).1)) (.cons ⟨p, _, .ref fa, u, rfl, p', r7_fig .., hu0, ⟨fa, fvs, rfl, hfa2, hsf2⟩⟩ (rowF_of (fun y hy => hy) hP))
    rw [cnt_blk hu0]
    have p7 := s7 _ _ p'
    refine ⟨_, rfl, p, _, rfl, DPut.k (k := Sum.inr ("high" : Str)) p7 (by show 7 < sizeLine; omega), ?_⟩
    have sp8 : (upd H7 p (.dK (putK (r7 T q (.ref fa) k b) (Sum.inr ("high" : Str)) (.int (T.low q + u.lf : Nat))))) sp = some (.lst (Rs ++ V.ref p :: RB.map fun x => V.ref x.1)) := by rw [upd_ne sp1]; exact s7 _ _ sp'
    refine ⟨_, rfl, sp, _, rfl, .inl (SqL.of sp8), ?_⟩
    rw [hll]
    refine ⟨_, rfl, p, _, rfl, DPut.k (k := Sum.inr ("end" : Str)) upd_same (by show 8 < sizeLine; omega), ?_⟩
    refine ⟨_, rfl, ?_⟩
    rw [upd_upd, r9_put]
    have g9 : GoS [sp] H (upd H7 p (.dK (r9 T q u (.ref fa) k b))) := (g'.trans (GoS.of s7)).mutNew pH
    have gp : GoS [p] H' (upd H7 p (.dK (r9 T q u (.ref fa) k b))) := (GoS.of s7).upd (List.mem_singleton.mpr rfl)
    have pS2 : ∀ y ∈ [p], y ∈ RB.map Prod.snd ++ S1 := fun y hy => by rw [List.mem_singleton.mp hy]; exact List.mem_append_right _ pS
    have sub9 : ∀ y ∈ ((p, b) :: RB).map Prod.snd ++ S, y ∈ RB.map Prod.snd ++ S1 := fun y hy => by
      rcases List.mem_append.mp hy with hy | hy
      · rcases List.mem_cons.mp hy with rfl | hy
        · exact List.mem_append_right _ bS
        · exact List.mem_append_left _ hy
      · exact List.mem_append_right _ (SS y hy)
    have notin : ∀ {y}, H y = none → y ≠ b → (∀ x ∈ RB, x.2 ≠ y) → y ∉ ((p, b) :: RB).map Prod.snd ++ S := fun {y} hn nb nr z => by
      rcases List.mem_append.mp z with z | z
      · rcases List.mem_cons.mp z with z | z
        · exact nb z
        · obtain ⟨x, hx, e⟩ := List.mem_map.mp z
          exact nr x hx e
      · exact hin y z hn
    refine qq _ ((p, b) :: RB) g9 ?_ ?_ ?_ ?_ ?_
    · rw [upd_ne sp1]
      exact s7 _ _ sp'
    · intro x hx
      rcases List.mem_cons.mp hx with rfl | hx
      · exact bH
      · exact (hRB x hx).1
    · refine List.nodup_cons.mpr ⟨fun z => ?_, hnd⟩
      obtain ⟨x, hx, e⟩ := List.mem_map.mp z
      exact (hRB x hx).2.2 (by rw [e]; exact bS)
    · rw [ad_rows u]
      show Paired _ _ ((q ++ []) :: (rowsN ad u u.len).map (q ++ ·))
      rw [List.append_nil]
      refine .cons ⟨k, .ref fa, u, ?_, hu0, ?_, ?_⟩ (pair_mono (fun _ _ h => RowP.same (Same.trans (gp.d pS2) (offS_sub sub9)) h) hP)
      · rw [offS_ne (notin pH (Ne.symm bp) fun x hx e => (hRB x hx).2.2 (by rw [e]; exact pS)), upd_same]
      · exact same_shv (Same.trans (gp.d pS2) (offS_sub sub9)) ⟨fa, fvs, rfl, hfa2, hsf2⟩
      · rw [offS_ne (notin kH (Ne.symm bk) fun x hx e => (hRB x hx).2.2 (by rw [e]; exact kS)), upd_ne kp, s7 _ _ k', List.take_of_length_le (by rw [kidV_len]; exact Nat.le_refl _)]
    · intro x hx
      rcases List.mem_cons.mp hx with rfl | hx
      · rw [upd_ne bp]
        exact s7 _ _ b'
      · rw [upd_ne fun z => (hRB x hx).2.2 (by rw [z]; exact pS)]
        exact s7 _ _ (hRB x hx).2.1
theorem ok_spots (D : DefAt K mg "_law_spots" s_law_spots ["figure", "above", "slot", "depth", "spots"]) (T0 : Txt K mg) : ∀ n : Nat, CalX P w K mg base CX0 n "_law_spots" ["figure", "above", "slot", "depth", "spots"] (spSpots K n)
  | 0 => by
    obtain ⟨f, fd, F, m, b⟩ := D.ex
    have no : ∀ vs H Q E, ¬ spSpots K 0 vs H Q E := fun vs H Q E h => by
      obtain ⟨_, _, _, _, _, _, _, _, _, h, _⟩ := h
      exact absurd h (Nat.not_lt_zero _)
    exact ⟨f, fd, ⟨fun vs H Q E h => absurd h (no vs H Q E), fun A outer s H args us vs Q E _ _ _ _ h => absurd h (no vs H Q E)⟩, m, F.kp, b, fun_lk F⟩
  | n + 1 => ok_spots_step D T0 (ok_spots D T0 n)
end
end K65
set_option Elab.async false
set_option linter.all false
set_option maxRecDepth 100000
set_option maxHeartbeats 8000000
namespace K65
open PySem PySem.Spec PyProof.Rows L2 Dt
/-! ### the law's rows and bags in memory -/
abbrev Bgs := Ad → List En
structure RwE (K : PySem.W.Frag) (H : Hp) (sp : Addr) (T : Dt) (RB : List (Addr × Addr)) : Prop where
  ln : H sp = some (.lst (RB.map fun x => V.ref x.1))
  rw : Paired (RowP K H T) RB (ad T)
theorem RwE.same {K : PySem.W.Frag} {H H' : Hp} {sp : Addr} {T : Dt} {RB : List (Addr × Addr)} (h : RwE K H sp T RB) (e : Same H H') : RwE K H' sp T RB := ⟨e _ _ h.ln, pair_mono (fun _ _ => RowP.same e) h.rw⟩
theorem RwE.len {K : PySem.W.Frag} {H : Hp} {sp : Addr} {T : Dt} {RB : List (Addr × Addr)} (h : RwE K H sp T RB) : RB.length = T.nodes := by rw [pair_len h.rw, ad_len]
theorem RwE.at {K : PySem.W.Frag} {H : Hp} {sp : Addr} {T : Dt} {RB : List (Addr × Addr)} (h : RwE K H sp T RB) {q : Ad} {u : Dt} (hu : sub T q = some u) : ∃ r b k fv, RB[T.idx q]? = some (r, b) ∧ (RB.map fun x => V.ref x.1)[T.idx q]? = some (.ref r) ∧ H r = some (.dK (r9 T q u fv k b)) ∧ ShV K H fv u ∧ H k = some (.lst (kidV T q u)) := by
  obtain ⟨x, h1, k, fv, w, h2, h3, h4, h5⟩ := pair_idx h.rw (ad_at hu)
  rw [hu] at h3
  obtain rfl := Option.some.inj h3
  exact ⟨x.1, x.2, k, fv, h1, by rw [List.getElem?_map, h1]; rfl, h2, h4, h5⟩
structure BgE (K : PySem.W.Frag) (S : List Addr) (H : Hp) (Bs : List Addr) (T : Dt) (B : Bgs) : Prop where
  sub : ∀ y ∈ Bs, y ∈ S
  al : ∀ y ∈ S, H y ≠ none
  nd : Bs.Nodup
  len : Bs.length = T.nodes
  li : ∀ q ∈ ad T, ∃ b xs, Bs[T.idx q]? = some b ∧ H b = some (.lst xs) ∧ DpAll K (offS S H) xs ((B q).map enD)
section
variable {K : PySem.W.Frag} {S : List Addr} {H H' : Hp} {Bs : List Addr} {T : Dt} {B : Bgs}
theorem BgE.keep {M : List Addr} (s : BgE K S H Bs T B) (g : GoS M H H') (h : ∀ y ∈ M, y ∈ S) (n : ∀ y ∈ M, y ∉ Bs) : BgE K S H' Bs T B := by
  refine ⟨s.sub, fun y hy => g.k y (s.al y hy), s.nd, s.len, fun q hq => ?_⟩
  obtain ⟨b, xs, h1, h2, h3⟩ := s.li q hq
  exact ⟨b, xs, h1, g.at h2 (fun z => n b z (List.mem_of_getElem? h1)), dps_same (g.d h) h3⟩
theorem BgE.same (s : BgE K S H Bs T B) (e : Same H H') : BgE K S H' Bs T B := s.keep (M := []) (GoS.of e) (fun y h => by cases h) (fun y h => by cases h)
theorem BgE.grow {N : List Addr} {H0 : Hp} (s : BgE K S H0 Bs T B) (e : Same H0 H) (h : ∀ y ∈ N, H0 y = none) (h2 : ∀ y ∈ N, H y ≠ none) : BgE K (N ++ S) H Bs T B := by
  refine ⟨fun y hy => List.mem_append_right _ (s.sub y hy), fun y hy => ?_, s.nd, s.len, fun q hq => ?_⟩
  · rcases List.mem_append.mp hy with hy | hy
    · exact h2 y hy
    · exact same_al e (s.al y hy)
  · obtain ⟨b, xs, h3, h4, h5⟩ := s.li q hq
    exact ⟨b, xs, h3, e _ _ h4, dps_same (offS_grow e h) h5⟩
/-- one bag changed -/
theorem BgE.setB (s : BgE K S H Bs T B) {q : Ad} {l : Addr} {xs : List V} {es : List En} (hq : q ∈ ad T) (hl : Bs[T.idx q]? = some l) (hx : DpAll K (offS S H) xs (es.map enD)) :
    BgE K S (upd H l (.lst xs)) Bs T (fun r => if r = q then es else B r) := by
  have hlS : l ∈ S := s.sub _ (List.mem_of_getElem? hl)
  have gD : GoD S H (upd H l (.lst xs)) := GoD.refl.upd hlS
  refine ⟨s.sub, fun y hy => ?_, s.nd, s.len, fun r hr => ?_⟩
  · by_cases z : y = l
    · rw [z, upd_same]
      exact fun z => nomatch z
    · rw [upd_ne z]
      exact s.al y hy
  · by_cases z : r = q
    · subst z
      exact ⟨l, xs, hl, upd_same, by rw [if_pos rfl]; exact dps_same gD hx⟩
    · obtain ⟨b, ys, h1, h2, h3⟩ := s.li r hr
      have nb : b ≠ l := fun e => by
        subst e
        have hn := s.nd
        have hi := (List.getElem?_eq_some_iff.mp h1).1
        have e2 := (List.getElem?_inj hi hn).mp (h1.trans hl.symm)
        exact z (idx_inj hr hq e2)
      exact ⟨b, ys, h1, by rw [upd_ne nb]; exact h2, by rw [if_neg z]; exact dps_same gD h3⟩
end
structure SpE (K : PySem.W.Frag) (S : List Addr) (H : Hp) (sp : Addr) (T : Dt) (RB : List (Addr × Addr)) (B : Bgs) : Prop where
  rw : RwE K (offS S H) sp T RB
  bg : BgE K S H (RB.map Prod.snd) T B
section
variable {K : PySem.W.Frag} {S : List Addr} {H H' : Hp} {sp : Addr} {T : Dt} {RB : List (Addr × Addr)} {B B' : Bgs}
theorem SpE.keep {M : List Addr} (s : SpE K S H sp T RB B) (g : GoS M H H') (h : ∀ y ∈ M, y ∈ S) (n : ∀ y ∈ M, y ∉ RB.map Prod.snd) : SpE K S H' sp T RB B := ⟨s.rw.same (g.d h), s.bg.keep g h n⟩
theorem SpE.same (s : SpE K S H sp T RB B) (e : Same H H') : SpE K S H' sp T RB B := ⟨s.rw.same (GoD.of e), s.bg.same e⟩
theorem SpE.grow {N : List Addr} {H0 : Hp} (s : SpE K S H0 sp T RB B) (e : Same H0 H) (h : ∀ y ∈ N, H0 y = none) (h2 : ∀ y ∈ N, H y ≠ none) : SpE K (N ++ S) H sp T RB B := ⟨s.rw.same (offS_grow e h), s.bg.grow e h h2⟩
theorem SpE.rd (s : SpE K S H sp T RB B) : RwE K H sp T RB := s.rw.same offS_same
theorem SpE.ind (s : SpE K S H sp T RB B) : InD S H := s.bg.al
/-- a row and its bag -/
theorem SpE.at (s : SpE K S H sp T RB B) {q : Ad} {u : Dt} (hu : sub T q = some u) : ∃ r b k fv xs, (RB.map Prod.snd)[T.idx q]? = some b ∧ (RB.map fun x => V.ref x.1)[T.idx q]? = some (.ref r) ∧ offS S H r = some (.dK (r9 T q u fv k b)) ∧ ShV K (offS S H) fv u ∧ offS S H k = some (.lst (kidV T q u)) ∧ H b = some (.lst xs) ∧ DpAll K (offS S H) xs ((B q).map enD) := by
  obtain ⟨r, b, k, fv, h1, h2, h3, h4, h5⟩ := s.rw.at hu
  obtain ⟨b', xs, g1, g2, g3⟩ := s.bg.li q (sub_ad hu)
  have e : (RB.map Prod.snd)[T.idx q]? = some b := by rw [List.getElem?_map, h1]; rfl
  rw [e] at g1
  obtain rfl := Option.some.inj g1
  exact ⟨r, b, k, fv, xs, e, h2, h3, h4, h5, g2, g3⟩
end
theorem off_nil {H : Hp} : Same H (offS [] H) := fun y o e => by
  rw [offS_ne (by intro z; cases z)]
  exact e
/-! ### _law_depth -/
def spDepth (K : PySem.W.Frag) : Sp := fun vs H Q _ => ∃ (sp : Addr) (T : Dt) (RB : List (Addr × Addr)) (i : Nat) (p : Ad), vs = [.ref sp, .int (i : Nat)] ∧ RwE K H sp T RB ∧ T.ht < 20 ∧ T.nodes ≤ 100 ∧ (lv T)[i]? = some p ∧ ∀ H', Same H H' → Q (.int (p.length : Nat)) H'
section
variable {P : Program} {w : World} {K : PySem.W.Frag} {mg : Str → Option Value} {base : Heap}
theorem ok_depth (D : DefAt K mg "_law_depth" s_law_depth ["spots", "queue"]) (T0 : Txt K mg) : CalX P w K mg base CX0 1 "_law_depth" ["spots", "queue"] (spDepth K) := by
  refine D.ok sc_law_depth (fun vs H Q E h => ?_) (fun f cdv A outer s H vs Q E hr h => ?_)
  · obtain ⟨sp, T, RB, i, p, rfl, _⟩ := h
    rfl
  obtain ⟨sp, T, RB, i, p, rfl, hR, hht, hno, hp, q⟩ := h
  have hu := hu_of hr
  refine ⟨_, (pss_one (ps_ret (pe_ix ix_list (pe_lc (own := [("row", 2)]) (g := gName 2) (by rfl) sc_law_depth.nd (pi_list (pv 0)) (blkOk_by (own := [("row", 2)]) (N := N_law_depth) (sc := defScope s_law_depth) (by decide +kernel)) (fun _ _ _ _ _ => pg_name (i := 2) sc_law_depth.nd rfl (Or.inl rfl)) (fun _ _ _ _ _ => by exact (pts_one (pt_conv (t' := tLf K 2) (pt_cmpR (op_eqDK (K := K) (by exact rfl) (un65 hr)) (pe_dget hu (pv 2) pe_str (fun _ _ => rfl)) (pe_tup pa_nil) (nomark _)) (by
          rintro σ H Q ⟨r, kvs, fv, w, S, hi, hr, hv, hs, hh, k⟩
          refine ⟨_, hi, r, fv, rfl, (hv ▸ DGet.k (k := Sum.inr ("figure" : Str)) hr), (by show 0 ≤ sizeLine; decide), fun e he => ?_⟩
          have s1 := same_new (o := .tup []) he
          have hw : Dp K (upd H e (.tup [])) fv (dD w) := dp_same s1 (dp_same offS_same (shv_dp hs))
          refine ⟨dD w, .tuple [], hw, .tup (SqT.of upd_same) .nil, (shp_dD 20 w hh).ok (by decide), (shp_tup (n := 1) (ds := []) fun e he => by cases he).ok (by decide), _, rfl, ?_⟩
          rw [eqv_leaf]
          exact k _ s1)))) (fun _ _ _ _ _ => by exact (pe_dget hu (pv 2) pe_str (fun _ _ => rfl)))) (pv 1) (fun _ _ => rfl)))), ?_⟩
  have hsl := sizeLine_eq
  refine ⟨_, rfl, sp, rfl, ⟨_, SqL.of hR.ln⟩, fun Dl hDl => lc_list (K := K) (a := sp) (xs := RB.map fun x => V.ref x.1) (fun i H' => Same H H' ∧ H' Dl = some (.lst ((((ad T).take i).filter (isLf T)).map fun a => V.int (a.length : Nat)))) ⟨same_new hDl, upd_same⟩ (fun i H' _ ⟨s, _⟩ => SqL.of (s _ _ hR.ln)) ?_ ?_⟩
  · rintro i x H' hx ⟨s', hD⟩
    have hil := (List.getElem?_eq_some_iff.mp hx).1
    rw [List.length_map] at hil
    have hrl := hR.len
    have hal := ad_len T
    have hq : (ad T)[i]? = some ((ad T)[i]'(by omega)) := List.getElem?_eq_getElem (by omega)
    generalize (ad T)[i]'(by omega) = q at hq
    obtain ⟨u, hu'⟩ := ad_sub (List.mem_of_getElem? hq)
    have hix := idx_of hq
    obtain ⟨r, b, k, fv, h1, h2, h3, h4, h5⟩ := hR.at hu'
    rw [hix, hx] at h2
    obtain rfl := Option.some.inj h2
    have etk : (ad T).take (i + 1) = (ad T).take i ++ [q] := by rw [List.take_add_one, hq]; rfl
    have h3' := s' _ _ h3
    refine ⟨rfl, ?_⟩
    refine ⟨r, _, fv, u, [], rfl, h3', r9_fig .., same_shv (Same.trans s' off_nil) h4, Nat.lt_of_le_of_lt (ht_le hu') hht, fun H2 s2 => ?_⟩
    have hlf : isLf T q = (u.len == 0) := isLf_o hu'
    by_cases c : (u.len == 0) = true
    · rw [c]
      refine iteT ⟨_, rfl, r, _, rfl, (r9_depth T q u fv k b ▸ DGet.k (k := Sum.inr ("depth" : Str)) (s2 _ _ h3')), _, s2 _ _ hD, small1000 (by rw [List.length_map]; have := List.length_filter_le (isLf T) ((ad T).take i); rw [List.length_take] at this; omega), same_mut (Same.trans s' s2) hDl, ?_⟩
      rw [upd_same, etk, List.filter_append, List.map_append, List.filter_cons_of_pos (by rw [hlf, c])]
      rfl
    · have c' : (u.len == 0) = false := by simpa using c
      rw [c']
      refine iteF ⟨Same.trans s' s2, ?_⟩
      rw [s2 _ _ hD, etk, List.filter_append, List.filter_cons_of_neg (by rw [hlf, c']; simp)]
      rw [List.filter_nil, List.append_nil]
  · rintro H' ⟨s', hD⟩
    rw [List.length_map, hR.len, ← ad_len, List.take_length] at hD
    have e : ((lv T).map fun a => V.int (a.length : Nat))[i]? = some (.int (p.length : Nat)) := by rw [List.getElem?_map, hp]; rfl
    exact ⟨_, rfl, Dl, _, _, _, rfl, rfl, SqL.of hD, atI_nat e, q H' s'⟩
/-! ### _law_rank -/
def spMkRank (K : PySem.W.Frag) : Sp := fun vs H Q _ => ∃ (tp ca : Addr), vs = [.ref tp] ∧ Tape K H tp ca ∧ ∀ H' a ns, Rn K tp ca H H' → RankI ns → H a = none → H' a = some (.tup (ns.map V.int)) → Q (.ref a) H'
theorem ok_mkrank (D : DefAt K mg "_law_rank" s_law_rank ["tape"]) (T0 : Txt K mg) (GPick : CalX P w K mg base CX0 1 "_law_pick" ["tape", "many"] (spPick K)) : CalX P w K mg base CX0 2 "_law_rank" ["tape"] (spMkRank K) := by
  refine D.ok sc_law_rank (fun vs H Q E h => ?_) (fun f cdv A outer s H vs Q E hr h => ?_)
  · obtain ⟨tp, ca, rfl, _⟩ := h
    rfl
  obtain ⟨tp, ca, rfl, hT, q⟩ := h
  refine ⟨_, (pss_cons (ps_set (i := 1) sc_law_rank.nd rfl (.inl rfl) (pe_ix ix_list (pe_lst (pa_cons pe_int (pa_cons pe_int (pa_cons pe_int (pa_cons pe_int (pa_cons pe_int (pa_cons pe_int (pa_cons pe_int (pa_cons (pe_c0 GPick hr (by decide) rfl (pa_cons (pv 0) (pa_cons pe_int pa_nil))) pa_nil))))))))) (pe_c0 GPick hr (by decide) rfl (pa_cons (pv 0) (pa_cons pe_int pa_nil))) (fun _ _ => rfl))) 
    (pss_cons (ps_set (i := 2) sc_law_rank.nd rfl (.inl rfl) (pe_lst pa_nil)) 
    (pss_cons (ps_for PassesOwn.never rfl (pi_range1 (by rfl) T0.range (pa_cons (pv 1) pa_nil)) (pg_name (i := 3) sc_law_rank.nd rfl (Or.inl rfl)) 
      (pss_one (ps_expr (pe_bm PySem.F.plainAttrs_list PySem.F.slot_list_append PySem.F.type_list_append mt_append (pv 2) (pa_cons (pe_ix ix_list (pe_lst (pa_cons pe_int (pa_cons pe_int (pa_cons (pe_un un_neg pe_int) (pa_cons pe_int (pa_cons pe_int (pa_cons pe_int (pa_cons (pe_op op_sub (pe_conv (t' := tC (.int rankB)) (pe_op op_shl pe_int pe_int) (shl_of (by decide) (by decide +kernel))) pe_int) (pa_cons (pe_op op_sub pe_int (pe_conv (t' := tC (.int rankB)) (pe_op op_shl pe_int pe_int) (shl_of (by decide) (by decide +kernel)))) pa_nil))))))))) (pe_c0 GPick hr (by decide) rfl (pa_cons (pv 0) (pa_cons (pe_ix ix_list (pe_lst (pa_cons pe_int (pa_cons pe_int (pa_cons pe_int pa_nil)))) (pe_c0 GPick hr (by decide) rfl (pa_cons (pv 0) (pa_cons pe_int pa_nil))) (fun _ _ => rfl)) pa_nil))) (fun _ _ => rfl)) pa_nil))))) 
    (pss_one (ps_ret (pe_callTy call_tuple_of (by rfl) T0.tuple PyProof.Rows.boot_tuple (pa_cons (pv 2) pa_nil))))))), ?_⟩
  have hsl := sizeLine_eq
  have ntp : ∀ {H1 : Hp}, Tape K H1 tp ca → ∀ {l}, H1 l = none → l ∉ tps tp ca := fun t l hl z => by
    rcases List.mem_cons.mp z with z | z
    · exact t.new hl z
    · exact t.newC hl (List.mem_singleton.mp z)
  refine ⟨_, rfl, tp, ca, 9, rfl, hT, by decide, by decide, fun H1 r9 hr9 R1 => ⟨(by show 8 ≤ sizeLine; decide), fun l hl => ?_⟩⟩
  have s2 := same_new (o := .lst [.int 1, .int 1, .int 1, .int 1, .int 0, .int 2, .int 2, .int (r9 : Nat)]) hl
  have hl2 : (upd H1 l (.lst [.int 1, .int 1, .int 1, .int 1, .int 0, .int 2, .int 2, .int (r9 : Nat)])) l = some (.lst [.int 1, .int 1, .int 1, .int 1, .int 0, .int 2, .int 2, .int (r9 : Nat)]) := upd_same
  have nl := ntp R1.b hl
  revert s2 hl2
  generalize upd H1 l (.lst [.int 1, .int 1, .int 1, .int 1, .int 0, .int 2, .int 2, .int (r9 : Nat)]) = H2
  intro s2 hl2
  have R2 := R1.same s2
  refine ⟨_, rfl, tp, ca, 8, rfl, R2.b, by decide, by decide, fun H3 r hr8 R3 => ?_⟩
  have hl3 := R3.at hl2 nl
  have R13 := R2.trans R3
  obtain ⟨z, hz, hz8⟩ : ∃ z : Nat, [V.int 1, .int 1, .int 1, .int 1, .int 0, .int 2, .int 2, .int (r9 : Nat)][r]? = some (.int (z : Nat)) ∧ z ≤ 8 := by
    rcases (by omega : r = 0 ∨ r = 1 ∨ r = 2 ∨ r = 3 ∨ r = 4 ∨ r = 5 ∨ r = 6 ∨ r = 7) with rfl | rfl | rfl | rfl | rfl | rfl | rfl | rfl
    · exact ⟨1, rfl, by omega⟩
    · exact ⟨1, rfl, by omega⟩
    · exact ⟨1, rfl, by omega⟩
    · exact ⟨1, rfl, by omega⟩
    · exact ⟨0, rfl, by omega⟩
    · exact ⟨2, rfl, by omega⟩
    · exact ⟨2, rfl, by omega⟩
    · exact ⟨r9, rfl, by omega⟩
  refine ⟨l, _, _, _, rfl, rfl, SqL.of hl3, atI_nat hz, (by show 0 ≤ sizeLine; decide), fun rl hrl => ?_⟩
  have hrl0 : H rl = none := R13.free hrl
  have nrl := ntp R13.b hrl
  refine ⟨_, rfl, ((z : Nat) : Int), rfl, by omega, by omega, for_range (lo := 0) (n := z) (fun k σ H' => ∃ (o3 : Option V) (ns : List Int), σ = [some (.ref tp), some (.int (z : Nat)), some (.ref rl), o3] ∧ Rn K tp ca H H' ∧ H' rl = some (.lst (ns.map V.int)) ∧ ns.length = k ∧ ∀ i ∈ ns, -rankB < i ∧ i < rankB) ⟨none, [], rfl, R13.same (same_new hrl), upd_same, rfl, (fun i h => nomatch h)⟩ ?_ ?_⟩
  · rintro k σ H' hk ⟨o3, ns, rfl, R', hl', hnl, hns⟩
    refine ⟨_, rfl, .inl ⟨rfl, _, SqL.of hl'⟩, ?_⟩
    refine ⟨_, rfl, _, _, rfl, rfl, _, _, rfl, rfl, (by show 8 ≤ sizeLine; decide), fun m hm => ?_⟩
    have s5 := same_new (o := .lst [.int 0, .int 1, .int (-1), .int 2, .int 0, .int 1, .int (rankB - 1), .int (1 - rankB)]) hm
    have hm5 : (upd H' m (.lst [.int 0, .int 1, .int (-1), .int 2, .int 0, .int 1, .int (rankB - 1), .int (1 - rankB)])) m = some (.lst [.int 0, .int 1, .int (-1), .int 2, .int 0, .int 1, .int (rankB - 1), .int (1 - rankB)]) := upd_same
    have nm := ntp R'.b hm
    revert s5 hm5
    generalize upd H' m (.lst [.int 0, .int 1, .int (-1), .int 2, .int 0, .int 1, .int (rankB - 1), .int (1 - rankB)]) = H5
    intro s5 hm5
    have R5 := R'.same s5
    refine ⟨_, rfl, (by show 3 ≤ sizeLine; decide), fun m2 hm2 => ?_⟩
    have s6 := same_new (o := .lst [.int 3, .int 6, .int 8]) hm2
    have hm26 : (upd H5 m2 (.lst [.int 3, .int 6, .int 8])) m2 = some (.lst [.int 3, .int 6, .int 8]) := upd_same
    have nm2 := ntp R5.b hm2
    revert s6 hm26
    generalize upd H5 m2 (.lst [.int 3, .int 6, .int 8]) = H6
    intro s6 hm26
    have R6 := R5.same s6
    refine ⟨_, rfl, tp, ca, 3, rfl, R6.b, by decide, by decide, fun H7 r3 hr3 R7 => ?_⟩
    have R67 := R6.trans R7
    obtain ⟨y, hy, hy1, hy8⟩ : ∃ y : Nat, [V.int 3, .int 6, .int 8][r3]? = some (.int (y : Nat)) ∧ 0 < y ∧ y ≤ 8 := by
      rcases (by omega : r3 = 0 ∨ r3 = 1 ∨ r3 = 2) with rfl | rfl | rfl
      · exact ⟨3, rfl, by omega, by omega⟩
      · exact ⟨6, rfl, by omega, by omega⟩
      · exact ⟨8, rfl, by omega, by omega⟩
    refine ⟨m2, _, _, _, rfl, rfl, SqL.of (R7.at hm26 nm2), atI_nat hy, tp, ca, y, rfl, R7.b, hy1, by omega, fun H8 x hx R8 => ?_⟩
    have R68 := R67.trans R8
    have hm8 := R8.at (R7.at (s6 _ _ hm5) nm) nm
    have hl8 := R8.at (R7.at (s6 _ _ (s5 _ _ hl')) nrl) nrl
    obtain ⟨e, he, he1, he2⟩ : ∃ e : Int, [V.int 0, .int 1, .int (-1), .int 2, .int 0, .int 1, .int (rankB - 1), .int (1 - rankB)][x]? = some (.int e) ∧ -rankB < e ∧ e < rankB := by
      have hb : (2 : Int) < rankB := by decide
      rcases (by omega : x = 0 ∨ x = 1 ∨ x = 2 ∨ x = 3 ∨ x = 4 ∨ x = 5 ∨ x = 6 ∨ x = 7) with rfl | rfl | rfl | rfl | rfl | rfl | rfl | rfl
      · exact ⟨0, rfl, by omega, by omega⟩
      · exact ⟨1, rfl, by omega, by omega⟩
      · exact ⟨-1, rfl, by omega, by omega⟩
      · exact ⟨2, rfl, by omega, by omega⟩
      · exact ⟨0, rfl, by omega, by omega⟩
      · exact ⟨1, rfl, by omega, by omega⟩
      · exact ⟨rankB - 1, rfl, by omega, by omega⟩
      · exact ⟨1 - rankB, rfl, by omega, by omega⟩
    refine ⟨m, _, _, _, rfl, rfl, SqL.of hm8, atI_nat he, rl, _, _, rfl, rfl, hl8, small1000 (by rw [List.length_map]; omega), ?_⟩
    refine ⟨_, ns ++ [e], rfl, R68.mut hrl0, by rw [upd_same, List.map_append]; rfl, by rw [List.length_append, hnl]; rfl, fun i hi => ?_⟩
    rcases List.mem_append.mp hi with hi | hi
    · exact hns i hi
    · rw [List.mem_singleton.mp hi]
      exact ⟨he1, he2⟩
  · rintro σ H' ⟨o3, ns, rfl, R', hl', hnl, hns⟩
    refine ⟨_, rfl, rl, _, rfl, .inl ⟨SqL.of hl', fun a ha => ?_⟩⟩
    exact q _ a ns (R'.same (same_new ha)) ⟨by omega, hns⟩ (R'.free ha) upd_same
end
end K65
set_option Elab.async false
set_option linter.all false
set_option maxRecDepth 100000
set_option maxHeartbeats 8000000
namespace K65
open PySem PySem.Spec PyProof.Rows L2 Dt
/-! ### events as data -/
theorem evsGo_bad {T : Dt} {b : PyData} (hb : eventOf T b = false) : ∀ {ds : List PyData} (seen : List Int), b ∈ ds → evsGo T seen ds = false
  | [], _, h => nomatch h
  | e :: ds, seen, h => by
    unfold evsGo
    rcases List.mem_cons.mp h with rfl | h
    · rw [hb, Bool.false_and]
    · cases pushNo e with
      | none =>
        show (eventOf T e && evsGo T seen ds) = false
        rw [evsGo_bad hb seen h, Bool.and_false]
      | some n =>
        show (eventOf T e && (!decide (n ∈ seen) && evsGo T (n :: seen) ds)) = false
        rw [evsGo_bad hb (n :: seen) h, Bool.and_false, Bool.and_false]
def EvG (T : Dt) : Evt → Prop
  | .dep => True
  | .psh n i rs => ∃ p, (lv T)[i]? = some p ∧ rs.length = p.length + 1 ∧ (∀ r ∈ rs, rankOf (intsD r) = true) ∧ 0 ≤ n ∧ n < packB
theorem run_evg {T : Dt} {L L' : Lns} {es : List (Evt × Gone)} (r : Run T L es L') : ∀ x ∈ es, EvG T x.1 := by
  induction r with
  | nil => exact fun x h => nomatch h
  | cons s r ih =>
    intro x hx
    rcases List.mem_cons.mp hx with rfl | hx
    · cases s with
      | dep0 _ => trivial
      | dep _ _ => trivial
      | psh h1 h2 h3 h4 h5 h6 => exact ⟨_, h1, h2, h3, h4, h5⟩
    · exact ih x hx
theorem evok_list {ds : List PyData} (h : ∀ e ∈ ds, SeqAt.shaped e = true ∧ ∀ es, e = .tuple es → es.length ≤ 1000000) : EvOk (.tuple ds) := fun ds' e => by
  injection e with e
  rw [← e]
  exact h
theorem sh_str {z : Str} (h : PyData.strOk z = true) : SeqAt.shaped (.str z) = true ∧ ∀ es, PyData.str z = .tuple es → es.length ≤ 1000000 := ⟨shaped_str z h, fun _ e => nomatch e⟩
theorem sh_int {i : Int} : SeqAt.shaped (.int i) = true ∧ ∀ es, PyData.int i = .tuple es → es.length ≤ 1000000 := ⟨(shp_int (n := 1)).ok (by decide), fun _ e => nomatch e⟩
theorem sh_bl {b : Bool} : SeqAt.shaped (.bool b) = true ∧ ∀ es, PyData.bool b = .tuple es → es.length ≤ 1000000 := ⟨by unfold SeqAt.shaped PyData.canLay0 PyData.depth; rfl, fun _ e => nomatch e⟩
theorem sh_rks {rs : List (List Int)} (h : rs.length ≤ 1000000) : SeqAt.shaped (.tuple (rs.map intsD)) = true ∧ ∀ es, PyData.tuple (rs.map intsD) = .tuple es → es.length ≤ 1000000 := ⟨(shp_tup (n := 1) fun e he => by
    obtain ⟨r, _, rfl⟩ := List.mem_map.mp he
    exact shp_ints (n := 0)).ok (by decide), fun es e => by
  injection e with e
  rw [← e, List.length_map]
  exact h⟩
theorem evok_evD {T : Dt} {e : Evt} (h : EvG T e) (hT : T.ht ≤ 15) : EvOk (evD e) := by
  cases e with
  | dep =>
    refine evok_list fun e he => ?_
    rw [List.mem_singleton.mp he]
    exact sh_str (by decide +kernel)
  | psh n i rs =>
    obtain ⟨p, h1, h2, _⟩ := h
    have := ht_path (List.mem_of_getElem? h1)
    refine evok_list fun e he => ?_
    simp only [List.mem_cons, List.not_mem_nil, or_false] at he
    rcases he with rfl | rfl | rfl | rfl
    · exact sh_str (by decide +kernel)
    · exact sh_int
    · exact sh_int
    · exact sh_rks (by omega)
theorem pl_rks {n : Nat} {rs : List (List Int)} (h : rs.length ≤ 1000) (g : ∀ r ∈ rs, rankOf (intsD r) = true) : plainT (n + 3) (.tuple (rs.map intsD)) := ⟨by rw [List.length_map]; omega, fun d hd => by
  obtain ⟨r, hr, rfl⟩ := List.mem_map.mp hd
  exact pl_ints n (by have := rank_len (g r hr); omega)⟩
theorem pl_evs {T : Dt} {es : List Evt} (h : ∀ e ∈ es, EvG T e) (hT : T.ht ≤ 15) (hl : es.length ≤ 1000) : plainT 20 (.tuple (es.map evD)) := ⟨by rw [List.length_map]; omega, fun d hd => by
  obtain ⟨e, he, rfl⟩ := List.mem_map.mp hd
  have hg := h e he
  cases e with
  | dep => exact ⟨(by show 1 ≤ 1000000; decide), fun d hd => by rw [List.mem_singleton.mp hd]; trivial⟩
  | psh n i rs =>
    obtain ⟨p, h1, h2, h3, _⟩ := hg
    have := ht_path (List.mem_of_getElem? h1)
    refine ⟨(by show 4 ≤ 1000000; decide), fun d hd => ?_⟩
    simp only [List.mem_cons, List.not_mem_nil, or_false] at hd
    rcases hd with rfl | rfl | rfl | rfl
    · trivial
    · trivial
    · trivial
    · exact pl_rks (n := 15) (by omega) h3⟩
theorem event4 (T : Dt) (w n q r : PyData) : eventOf T (.tuple [w, n, q, r]) = (PyData.eqv w (.str "push") && (belowB packB (numOf n) && wayOf T q r)) := rfl
theorem eqv_push : PyData.eqv (.str "push") (.str "push") = true := by
  unfold PyData.eqv
  decide +kernel
theorem eqv_dep : PyData.eqv (.str "depart") (.str "depart") = true := by
  unfold PyData.eqv
  decide +kernel
theorem eventOf_ok {T : Dt} {e : Evt} (h : EvG T e) : eventOf T (evD e) = true := by
  cases e with
  | dep => exact eqv_dep
  | psh n i rs =>
    obtain ⟨p, h1, h2, h3, h4, h5⟩ := h
    unfold evD
    rw [event4, eqv_push, show belowB packB (numOf (.int n)) = true from below_pack h4 h5, wayOf_yes (i := i) rfl h1, fit_ok h2 h3]
    rfl
theorem pushNo_psh (n : Int) (i : Nat) (rs : List (List Int)) : pushNo (evD (.psh n i rs)) = some n := by
  show (if PyData.eqv (.str "push") (.str "push") = true then numOf (.int n) else none) = some n
  rw [if_pos eqv_push]
  rfl
def numE : Evt × Gone → List Int
  | (.psh n _ _, _) => [n]
  | (.dep, _) => []
def numsE (es : List (Evt × Gone)) : List Int := es.flatMap numE
theorem evsGo_ev {T : Dt} : ∀ (es : List (Evt × Gone)) (seen : List Int), (∀ x ∈ es, EvG T x.1) → evsGo T seen (es.map fun x => evD x.1) = decide ((numsE es).Nodup ∧ ∀ n ∈ numsE es, n ∉ seen)
  | [], seen, _ => by
    rw [decide_eq_true ⟨List.Pairwise.nil, fun n h => nomatch h⟩]
    rfl
  | (e, og) :: es, seen, h => by
    have h1 := eventOf_ok (h _ (List.mem_cons_self ..))
    have ih := fun s => evsGo_ev es s fun x hx => h x (List.mem_cons_of_mem _ hx)
    rw [List.map_cons]
    unfold evsGo
    rw [h1, Bool.true_and]
    cases e with
    | dep => exact ih seen
    | psh n i rs =>
      rw [pushNo_psh]
      show (!decide (n ∈ seen) && evsGo T (n :: seen) (es.map fun x => evD x.1)) = _
      rw [ih]
      have e2 : numsE ((.psh n i rs, og) :: es) = n :: numsE es := rfl
      rw [e2, Bool.eq_iff_iff]
      simp only [Bool.and_eq_true, Bool.not_eq_true', decide_eq_false_iff_not, decide_eq_true_eq, List.nodup_cons, List.mem_cons]
      constructor
      · rintro ⟨h1, h2, h3⟩
        refine ⟨⟨fun z => h3 n z (.inl rfl), h2⟩, fun m hm => ?_⟩
        rcases hm with rfl | hm
        · exact h1
        · exact fun z => h3 m hm (.inr z)
      · rintro ⟨⟨h1, h2⟩, h3⟩
        refine ⟨h3 n (.inl rfl), h2, fun m hm z => ?_⟩
        rcases z with rfl | z
        · exact h1 hm
        · exact h3 m (.inr hm) z
theorem evsOf_ev {T : Dt} {es : List (Evt × Gone)} (h : ∀ x ∈ es, EvG T x.1) : evsOf T (.tuple (es.map fun x => evD x.1)) = decide (numsE es).Nodup := by
  show evsGo T [] _ = _
  rw [evsGo_ev es [] h]
  exact decide_eq_decide.mpr ⟨fun z => z.1, fun z => ⟨z, fun n _ y => nomatch y⟩⟩
def goneP : Evt × Gone → List PyData
  | (.dep, none) => [.none]
  | (.dep, some (n, _, _)) => [.int n]
  | (.psh .., _) => []
def gonesP (es : List (Evt × Gone)) : List PyData := es.flatMap goneP
theorem gones_dp {K : PySem.W.Frag} {H : Hp} : ∀ es : List (Evt × Gone), DpAll K H (gonesV es) (gonesP es)
  | [] => .nil
  | (.dep, none) :: es => .cons .non (gones_dp es)
  | (.dep, some (n, _, _)) :: es => .cons (.int n) (gones_dp es)
  | (.psh .., _) :: es => gones_dp es
theorem gonesP_pl {n : Nat} : ∀ es : List (Evt × Gone), ∀ d ∈ gonesP es, plainT (n + 1) d
  | [], d, h => nomatch h
  | (.dep, none) :: es, d, h => by
    rcases List.mem_cons.mp (show d ∈ PyData.none :: gonesP es from h) with rfl | h
    · trivial
    · exact gonesP_pl es d h
  | (.dep, some (n', _, _)) :: es, d, h => by
    rcases List.mem_cons.mp (show d ∈ PyData.int n' :: gonesP es from h) with rfl | h
    · trivial
    · exact gonesP_pl es d h
  | (.psh .., _) :: es, d, h => gonesP_pl es d h
theorem numsE_len : ∀ es : List (Evt × Gone), (numsE es).length ≤ es.length
  | [] => Nat.le_refl _
  | (.dep, _) :: es => Nat.le_succ_of_le (numsE_len es)
  | (.psh .., _) :: es => Nat.succ_le_succ (numsE_len es)
theorem flat_take {α β : Type} (f : α → List β) {l : List α} {i : Nat} {x : α} (h : l[i]? = some x) : (l.take (i + 1)).flatMap f = (l.take i).flatMap f ++ f x := by
  rw [List.take_add_one, h, Option.toList_some, List.flatMap_append]
  simp
theorem gen_heap {P : Hp → Prop} {H1 : Hp} (h : ∀ H0, H0 = H1 → P H0) : P H1 := h _ rfl
/-! ### frames for standings made anew -/
theorem noL_en : ∀ l : List En, noLs (l.map enD) = true
  | [] => by unfold noLs; rfl
  | e :: l => by
    rw [List.map_cons]
    unfold noLs
    rw [noL_en l, Bool.and_true]
    unfold enD
    unfold noL
    unfold noLs
    rw [Bool.and_eq_true]
    refine ⟨?_, ?_⟩
    · unfold intsD
      unfold noL
      exact noL_ints _
    · unfold noLs
      unfold noL
      unfold noLs
      rfl
def LDc (o : HO) : Prop := (∃ xs, o = .lst xs) ∨ ∃ kvs, o = .dK kvs
variable {K : PySem.W.Frag} {C CS : Addr} {S : List Addr} {H H' : Hp} {a ta la sd : Addr} {Ls : List Addr} {T : Dt} {L : Lns} {kv : List (Key × V)}
theorem same_goN {M : List Addr} {H1 H2 : Hp} (s : Same H H1) (g : GoS M H1 H2) (h : ∀ y ∈ M, H y = none) : Same H H2 := fun y o e => g.at (s y o e) fun z => by
  rw [h y z] at e
  exact nomatch e
theorem StE.beside {M : List Addr} {H0 : Hp} (s : StE K C CS (sd :: Ls) H' a ta la sd Ls T L kv) (t : TN K H0 (offS (sd :: Ls) H') C ta T ∧ H0 la = none) (hM : ∀ y ∈ M, H0 y ≠ none) (hM' : ∀ y ∈ M, ∃ o, H' y = some o ∧ LDc o) : StE K C CS ((sd :: Ls) ++ M) H' a ta la sd Ls T L kv := by
  have off : ∀ {y o}, offS (sd :: Ls) H' y = some o → ¬ LDc o → offS ((sd :: Ls) ++ M) H' y = some o := fun {y o} h n => by
    obtain ⟨h1, h2⟩ := offS_some h
    rw [offS_ne (fun z => ?_)]
    · exact h2
    · rcases List.mem_append.mp z with z | z
      · exact h1 z
      · obtain ⟨o', hx, hl⟩ := hM' y z
        rw [h2] at hx
        rw [Option.some.inj hx] at n
        exact n hl
  have off2 : ∀ {y o}, offS (sd :: Ls) H' y = some o → H0 y = none → offS ((sd :: Ls) ++ M) H' y = some o := fun {y o} h n => by
    obtain ⟨h1, h2⟩ := offS_some h
    rw [offS_ne (fun z => ?_)]
    · exact h2
    · rcases List.mem_append.mp z with z | z
      · exact h1 z
      · exact hM y z n
  have nt : ∀ {ys}, ¬ LDc (.tup ys) := fun {ys} z => by
    rcases z with ⟨_, z⟩ | ⟨_, z⟩
    · exact nomatch z
    · exact nomatch z
  have nf : ∀ {ob ys}, ¬ LDc (.frz ob (.tup ys)) := fun {ob ys} z => by
    rcases z with ⟨_, z⟩ | ⟨_, z⟩
    · exact nomatch z
    · exact nomatch z
  have ni : ∀ {C dx fs}, ¬ LDc (.ins C dx fs) := fun {C dx fs} z => by
    rcases z with ⟨_, z⟩ | ⟨_, z⟩
    · exact nomatch z
    · exact nomatch z
  have kt : KeepT (offS (sd :: Ls) H') (offS ((sd :: Ls) ++ M) H') := fun y ys => ⟨fun h => off h nt, fun o h => off h nf⟩
  obtain ⟨dx, ob⟩ := s.ob
  obtain ⟨⟨dx', fv, LL, SS, h1, h2, h3, h4, h5⟩, hla⟩ := t
  refine ⟨fun y hy => List.mem_append_left _ hy, fun y hy => ?_, s.nd, ⟨dx, off ob ni⟩, ⟨dx', fv, LL, SS, ⟨off h1.ob ni, fun i hi => off2 (h1.ls i hi) (h5 i hi), h1.inj⟩, fun i hi => Paired.mono (fun v q c => Cell.keep kt i v q c) (h2 i hi), h3.keep kt, h4⟩, off2 s.ln hla, s.len, fun q hq => ?_, s.se, s.rk, s.pw⟩
  · rcases List.mem_append.mp hy with hy | hy
    · exact s.al y hy
    · obtain ⟨o, hx, _⟩ := hM' y hy
      rw [hx]
      exact fun z => nomatch z
  · obtain ⟨l, xs, z1, z2, z3⟩ := s.li q hq
    exact ⟨l, xs, z1, z2, dps_keep kt z3 (noL_en _)⟩
theorem StE.ld (s : StE K C CS S H a ta la sd Ls T L kv) : ∀ y ∈ sd :: Ls, ∃ o, H y = some o ∧ LDc o := fun y hy => by
  rcases List.mem_cons.mp hy with rfl | hy
  · exact ⟨_, s.se, .inr ⟨_, rfl⟩⟩
  · obtain ⟨i, hi⟩ := List.mem_iff_getElem?.mp hy
    have hil := (List.getElem?_eq_some_iff.mp hi).1
    rw [s.len, ← ad_len] at hil
    have hq : (ad T)[i]? = some (ad T)[i] := List.getElem?_eq_getElem hil
    obtain ⟨l, xs, z1, z2, _⟩ := s.li _ (List.mem_of_getElem? hq)
    rw [idx_of hq, hi] at z1
    rw [Option.some.inj z1]
    exact ⟨_, z2, .inl ⟨_, rfl⟩⟩
def spSameQ (K : PySem.W.Frag) (C CS : Addr) : Sp := fun vs H Q _ => ∃ (a ta la sd : Addr) (S Ls : List Addr) (T : Dt) (L : Lns) (kv : List (Key × V)) (a2 ta2 la2 sd2 : Addr) (S2 Ls2 : List Addr) (T2 : Dt) (L2 : Lns) (kv2 : List (Key × V)), vs = [.ref a, .ref a2] ∧ StE K C CS S H a ta la sd Ls T L kv ∧ T.ht < 20 ∧ StE K C CS S2 H a2 ta2 la2 sd2 Ls2 T2 L2 kv2 ∧ T2.ht < 20 ∧
    Q (.bl (PyData.eqv (dD T) (dD T2) && decide (lnsOf T L = lnsOf T2 L2))) H
theorem sameQ {P : Program} {w : World} {K : PySem.W.Frag} {mg : Str → Option Value} {base : Heap} {C CS U : Addr} {f : Addr} {fd : FuncData} (F : FnOk P w K mg base (L2.CX P w) 5 f fd ["self", "other"] (spSameAs K C CS U)) : FnOk P w K mg base CX0 5 f fd ["self", "other"] (spSameQ K C CS) := by
  refine fn_quiet F fun vs H Q E h => ?_
  obtain ⟨a, ta, la, sd, S, Ls, T, L, kv, a2, ta2, la2, sd2, S2, Ls2, T2, L2, kv2, rfl, st, h1, st2, h2, q⟩ := h
  exact ⟨a, ta, la, sd, S, Ls, T, L, kv, .ref a2, true, rfl, st, h1, stv_of st2, (fun z => nomatch z), fun _ => ⟨a2, ta2, la2, sd2, S2, Ls2, T2, L2, kv2, rfl, st2, h2, q⟩⟩
end K65
set_option Elab.async false
set_option linter.all false
set_option maxRecDepth 100000
set_option maxHeartbeats 8000000
namespace K65
open PySem PySem.Spec PyProof.Rows L2 Dt
/-! ### _law_story -/
def nosOf : Evt → List Int
  | .psh n _ _ => [n]
  | .dep => []
def nosE (es : List Evt) : List Int := es.flatMap nosOf
theorem numsE_nos : ∀ es : List (Evt × Gone), numsE es = nosE (es.map (·.1))
  | [] => rfl
  | (.dep, _) :: es => numsE_nos es
  | (.psh n _ _, _) :: es => congrArg (n :: ·) (numsE_nos es)
structure StoryOK (T : Dt) (es : List Evt) : Prop where
  ev : ∀ e ∈ es, EvG T e
  nd : (nosE es).Nodup
def spStory (K : PySem.W.Frag) : Sp := fun vs H Q _ => ∃ (tp ca sp : Addr) (S : List Addr) (T : Dt) (RB : List (Addr × Addr)) (B : Bgs), vs = [.ref tp, .ref sp] ∧ Tape K H tp ca ∧ (∀ y ∈ tps tp ca, y ∈ S) ∧ (∀ y ∈ tps tp ca, y ∉ RB.map Prod.snd) ∧ SpE K S H sp T RB B ∧ T.ht < 20 ∧ T.nodes ≤ 100 ∧
  ∀ H' a es, Rn K tp ca H H' → H a = none → Dp K (offS S H') (.ref a) (.tuple (es.map evD)) → StoryOK T es → es.length ≤ 70 → Q (.ref a) H'
/-- the number of a packet -/
def tNum (K : PySem.W.Frag) : TE := fun σ H Q => ∃ (tp ca : Addr) (k : Nat), σ[0]? = some (some (.ref tp)) ∧ σ[6]? = some (some (.int (0 + (k : Int)))) ∧ k ≤ 69 ∧ Tape K H tp ca ∧ ∀ H' (n : Int), Rn K tp ca H H' → 0 ≤ n → n < packB → n % 70 = (k : Nat) → Q (.int n) H'
def tQu (K : PySem.W.Frag) : TE := fun σ H Q => ∃ (tp ca : Addr) (m f : Nat), σ[0]? = some (some (.ref tp)) ∧ σ[3]? = some (some (.int (m : Nat))) ∧ σ[5]? = some (some (.int (f : Nat))) ∧ f < m ∧ m ≤ 1000 ∧ Tape K H tp ca ∧ ∀ H' (x : Nat), Rn K tp ca H H' → x < m → Q (.int (x : Nat)) H'
theorem tps_no {K : PySem.W.Frag} {tp ca : Addr} {H1 : Hp} (t : Tape K H1 tp ca) {l : Addr} (hl : H1 l = none) : l ∉ tps tp ca := fun z => by
  rcases List.mem_cons.mp z with z | z
  · exact t.new hl z
  · exact t.newC hl (List.mem_singleton.mp z)
section
variable {P : Program} {w : World} {K : PySem.W.Frag} {mg : Str → Option Value} {base : Heap}
theorem ok_story (D : DefAt K mg "_law_story" s_law_story ["tape", "spots"]) (T0 : Txt K mg) (GPick : CalX P w K mg base CX0 1 "_law_pick" ["tape", "many"] (spPick K)) (GRank : CalX P w K mg base CX0 2 "_law_rank" ["tape"] (spMkRank K)) (GDepth : CalX P w K mg base CX0 1 "_law_depth" ["spots", "queue"] (spDepth K)) : CalX P w K mg base CX0 3 "_law_story" ["tape", "spots"] (spStory K) := by
  refine D.ok sc_law_story (fun vs H Q E h => ?_) (fun f cdv A outer s H vs Q E hr h => ?_)
  · obtain ⟨tp, ca, sp, S, T, RB, B, rfl, _⟩ := h
    rfl
  obtain ⟨tp, ca, sp, S, T, RB, B, rfl, hT, hS, hB, hE, hht, hno, q⟩ := h
  have hu := hu_of hr
  refine ⟨_, (pss_cons (ps_set (i := 2) sc_law_story.nd rfl (.inl rfl) (pe_lst pa_nil)) 
    (pss_cons (ps_set (i := 3) sc_law_story.nd rfl (.inl rfl) (pe_dget hu (pe_ix ix_list (pv 1) pe_int (fun _ _ => rfl)) pe_str (fun _ _ => rfl))) 
    (pss_cons (ps_set (i := 4) sc_law_story.nd rfl (.inl rfl) (pe_op op_add pe_int (pe_c0 GPick hr (by decide) rfl (pa_cons (pv 0) (pa_cons pe_int pa_nil))))) 
    (pss_cons (ps_set (i := 5) sc_law_story.nd rfl (.inl rfl) (pe_c0 GPick hr (by decide) rfl (pa_cons (pv 0) (pa_cons (pv 3) pa_nil)))) 
    (pss_cons (ps_for PassesOwn.never rfl (pi_range1 (by rfl) T0.range (pa_cons (pe_op op_add pe_int (pe_c0 GPick hr (by decide) rfl (pa_cons (pv 0) (pa_cons pe_int pa_nil)))) pa_nil)) (pg_name (i := 6) sc_law_story.nd rfl (Or.inl rfl)) 
      (pss_one (ps_if (pt_cmpR op_lt (pe_c0 GPick hr (by decide) rfl (pa_cons (pv 0) (pa_cons pe_int pa_nil))) (pv 4) (nomark _)) 
        (pss_one (ps_expr (pe_bm PySem.F.plainAttrs_list PySem.F.slot_list_append PySem.F.type_list_append mt_append (pv 2) (pa_cons (pe_tup (pa_cons pe_str pa_nil)) pa_nil)))) 
        (pss_cons (ps_set (i := 7) sc_law_story.nd rfl (.inl rfl) (pe_conv (t' := tNum K) (pe_op op_add (pe_op op_mul (pe_ix ix_list (pe_lst (pa_cons (pe_c0 GPick hr (by decide) rfl (pa_cons (pv 0) (pa_cons (pe_op op_pow pe_int pe_int) pa_nil))) (pa_cons (pe_op op_sub pe_int (pv 6)) (pa_cons pe_int (pa_cons (pe_op op_sub pe_int (pe_op op_fdiv (pv 6) pe_int)) pa_nil))))) (pe_c0 GPick hr (by decide) rfl (pa_cons (pv 0) (pa_cons pe_int pa_nil))) (fun _ _ => rfl)) pe_int) (pv 6)) (by
      rintro σ H Q ⟨tp, ca, k, h0, h6, hk, hT, q⟩
      refine ⟨_, h0, _, _, rfl, rfl, ⟨by decide, by decide, by decide⟩, tp, ca, 1000000000000, congrArg (fun z => [V.ref tp, V.int z]) (by decide +kernel), hT, by decide, by decide, fun H1 x hx R1 => ?_⟩
      refine ⟨_, h6, _, _, rfl, rfl, _, h6, _, _, rfl, rfl, ⟨by decide, by decide⟩, _, _, rfl, rfl, (by show 4 ≤ sizeLine; decide), fun l hl => ?_⟩
      obtain ⟨H2, e2⟩ : ∃ H2, H2 = upd H1 l (.lst [.int (x : Nat), .int (70 - (0 + (k : Int))), .int 0, .int (16470307208669242 - (0 + (k : Int)) / 36)]) := ⟨_, rfl⟩
      have s2 : Same H1 H2 := by rw [e2]; exact same_new hl
      have hl2 : H2 l = some (.lst [.int (x : Nat), .int (70 - (0 + (k : Int))), .int 0, .int (16470307208669242 - (0 + (k : Int)) / 36)]) := by rw [e2, upd_same]
      rw [← e2]
      clear e2
      have R2 := R1.same s2
      have nl := tps_no R1.b hl
      refine ⟨_, h0, tp, ca, 4, rfl, R2.b, by decide, by decide, fun H3 r hr4 R3 => ?_⟩
      obtain ⟨z, hz, h70, hpk⟩ : ∃ z : Int, [V.int (x : Nat), .int (70 - (0 + (k : Int))), .int 0, .int (16470307208669242 - (0 + (k : Int)) / 36)][r]? = some (.int z) ∧ 0 ≤ z ∧ z * 70 + (k : Int) < packB := by
        have hp : packB = 1152921504606846976 := rfl
        rcases (by omega : r = 0 ∨ r = 1 ∨ r = 2 ∨ r = 3) with rfl | rfl | rfl | rfl
        · exact ⟨_, rfl, by omega, by omega⟩
        · exact ⟨_, rfl, by omega, by omega⟩
        · exact ⟨_, rfl, by omega, by omega⟩
        · exact ⟨_, rfl, by omega, by omega⟩
      refine ⟨l, _, _, _, rfl, rfl, SqL.of (R3.at hl2 nl), atI_nat hz, _, _, rfl, rfl, .inr ⟨by decide, by decide⟩, _, h6, _, _, rfl, rfl, ?_⟩
      exact q H3 _ (R2.trans R3) (by omega) (by omega) (by omega)))) 
        (pss_cons (ps_set (i := 8) sc_law_story.nd rfl (.inl rfl) (pe_conv (t' := tQu K) (pe_ix ix_list (pe_lst (pa_cons (pe_c0 GPick hr (by decide) rfl (pa_cons (pv 0) (pa_cons (pv 3) pa_nil))) (pa_cons (pv 5) pa_nil))) (pe_c0 GPick hr (by decide) rfl (pa_cons (pv 0) (pa_cons pe_int pa_nil))) (fun _ _ => rfl)) (by
      rintro σ H Q ⟨tp, ca, m, f, h0, h3, h5, hf, hm, hT, q⟩
      refine ⟨_, h0, _, h3, tp, ca, m, rfl, hT, by omega, by omega, fun H1 x hx R1 => ⟨_, h5, (by show 2 ≤ sizeLine; decide), fun l hl => ?_⟩⟩
      obtain ⟨H2, e2⟩ : ∃ H2, H2 = upd H1 l (.lst [.int (x : Nat), .int (f : Nat)]) := ⟨_, rfl⟩
      have s2 : Same H1 H2 := by rw [e2]; exact same_new hl
      have hl2 : H2 l = some (.lst [.int (x : Nat), .int (f : Nat)]) := by rw [e2, upd_same]
      rw [← e2]
      clear e2
      have R2 := R1.same s2
      have nl := tps_no R1.b hl
      refine ⟨_, h0, tp, ca, 2, rfl, R2.b, by decide, by decide, fun H3 r hr4 R3 => ?_⟩
      obtain ⟨z, hz, hzm⟩ : ∃ z : Nat, [V.int (x : Nat), .int (f : Nat)][r]? = some (.int (z : Nat)) ∧ z < m := by
        rcases (by omega : r = 0 ∨ r = 1) with rfl | rfl
        · exact ⟨_, rfl, by omega⟩
        · exact ⟨_, rfl, by omega⟩
      exact ⟨l, _, _, _, rfl, rfl, SqL.of (R3.at hl2 nl), atI_nat hz, q H3 z (R2.trans R3) hzm⟩))) 
        (pss_cons (ps_setLc (i := 10) (own := [("depth", 9)]) (g := gName 9) (tt := tYes) (by rfl) sc_law_story.nd rfl (by rfl) (sw_true rfl rfl rfl (by decide +kernel)) (pi_range1 (by rfl) T0.range (pa_cons (pe_op op_add (pe_c0 GDepth hr (by decide) rfl (pa_cons (pv 1) (pa_cons (pv 8) pa_nil))) pe_int) pa_nil)) (blkOk_by (own := [("depth", 9)]) (N := N_law_story) (sc := defScope s_law_story) (by decide +kernel)) (fun _ _ _ _ _ => pg_name (i := 9) sc_law_story.nd rfl (Or.inl rfl)) (fun _ _ _ _ _ => pts_nil) (fun _ _ _ _ _ => by exact (pe_c0 GRank hr (by decide) rfl (pa_cons (pv 0) pa_nil)))) 
        (pss_one (ps_expr (pe_bm PySem.F.plainAttrs_list PySem.F.slot_list_append PySem.F.type_list_append mt_append (pv 2) (pa_cons (pe_tup (pa_cons pe_str (pa_cons (pv 7) (pa_cons (pv 8) (pa_cons (pe_callTy call_tuple_of (by rfl) T0.tuple PyProof.Rows.boot_tuple (pa_cons (pv 10) pa_nil)) pa_nil))))) pa_nil)))))))))) 
    (pss_one (ps_ret (pe_callTy call_tuple_of (by rfl) T0.tuple PyProof.Rows.boot_tuple (pa_cons (pv 2) pa_nil))))))))), ?_⟩
  have hsl := sizeLine_eq
  have hlf := lf_pos T
  have hlfn := lf_le T
  refine ⟨(by show 0 ≤ sizeLine; decide), fun st hst => ?_⟩
  have s1 : Same H (upd H st (.lst [])) := same_new hst
  have hst1 : (upd H st (.lst [])) st = some (.lst []) := upd_same
  have nst := tps_no hT hst
  have nSt : st ∉ S := hE.ind.new hst
  have R1 : Rn K tp ca H (upd H st (.lst [])) := Rn.of hT s1
  obtain ⟨r0, b0, k0, fv0, z1, z2, z3, z4, z5⟩ := hE.rd.at (sub_nil T)
  have ln1 := s1 _ _ hE.rd.ln
  have z31 := s1 _ _ z3
  rw [idx_nil] at z2
  refine ⟨_, rfl, sp, _, 0, _, rfl, rfl, SqL.of ln1, atI_0 z2, r0, _, rfl, (r9_high T [] T fv0 k0 b0 ▸ DGet.k (k := Sum.inr ("high" : Str)) z31), ?_⟩
  revert R1 hst1
  generalize upd H st (.lst []) = H1
  intro hst1 R1
  refine ⟨_, rfl, tp, ca, 4, rfl, R1.b, by decide, by decide, fun H2 bz hbz R2 => ⟨_, _, rfl, rfl, ?_⟩⟩
  have hlow : T.low [] + T.lf = T.lf := by rw [low_nil, Nat.zero_add]
  refine ⟨_, rfl, _, rfl, tp, ca, T.low [] + T.lf, rfl, R2.b, by omega, by omega, fun H3 fw hfw R3 => ?_⟩
  have R13 := R1.trans (R2.trans R3)
  refine ⟨_, rfl, tp, ca, 65, rfl, R3.b, by decide, by decide, fun H4 mm hmm R4 => ⟨_, _, rfl, rfl, ?_⟩⟩
  have R14 := R13.trans R4
  have hst4 := (R2.trans (R3.trans R4)).at hst1 nst
  have mS1 : ∀ y ∈ tps tp ca, y ∈ st :: S := fun y hy => List.mem_cons_of_mem _ (hS y hy)
  refine ⟨((6 + mm : Nat) : Int), congrArg (fun z => [V.int z]) (by omega), by omega, by omega, for_range (lo := 0) (n := 6 + mm) (fun k σ H' => ∃ (o6 o7 o8 o9 o10 : Option V) (xs : List V) (es : List Evt), σ = [some (.ref tp), some (.ref sp), some (.ref st), some (.int (T.low [] + T.lf : Nat)), some (.int (2 + ((bz : Nat) : Int))), some (.int (fw : Nat)), o6, o7, o8, o9, o10] ∧ Rn K tp ca H H' ∧ H' st = some (.lst xs) ∧ DpAll K (offS (st :: S) H') xs (es.map evD) ∧ es.length = k ∧ (∀ e ∈ es, EvG T e) ∧ (nosE es).Nodup ∧ ∀ n ∈ nosE es, ∃ j : Nat, j < k ∧ n % 70 = (j : Nat)) ⟨none, none, none, none, none, [], [], rfl, R14, hst4, .nil, rfl, (fun e h => nomatch h), List.nodup_nil, (fun n h => nomatch h)⟩ ?_ ?_⟩
  · rintro k σ H' hk ⟨o6, o7, o8, o9, o10, xs, es, rfl, R', hst', hxs, hel, hev, hnd, hmod⟩
    have hxl := dps_len hxs
    rw [List.length_map] at hxl
    refine ⟨_, rfl, tp, ca, 10, rfl, R'.b, by decide, by decide, fun H5 rp hrp R5 => ⟨_, rfl, _, _, rfl, rfl, _, rfl, ite2 (fun _ => ?_) (fun _ => ?_)⟩⟩
    · -- a departure
      have R15 := R'.trans R5
      have hst5 := R5.at hst' nst
      have hxs5 := dps_same (R5.g.d mS1) hxs
      have in5 : InD (st :: S) H5 := fun y hy => by
        rcases List.mem_cons.mp hy with rfl | hy
        · rw [hst5]; exact fun z => nomatch z
        · exact R15.g.k y (hE.ind y hy)
      refine ⟨_, rfl, .inl ⟨rfl, _, SqL.of hst5⟩, (by show 1 ≤ sizeLine; decide), fun ev hev' => ?_⟩
      have s6 := same_new (o := .tup [.str "depart"]) hev'
      have he6 : (upd H5 ev (.tup [.str "depart"])) ev = some (.tup [.str "depart"]) := upd_same
      have nev := in5.new hev'
      revert s6 he6
      generalize upd H5 ev (.tup [.str "depart"]) = H6
      intro s6 he6
      have hst6 := s6 _ _ hst5
      refine ⟨st, _, _, rfl, rfl, hst6, small1000 (by omega), ?_⟩
      have gD : GoD (st :: S) H6 (upd H6 st (.lst (xs ++ [.ref ev]))) := GoD.refl.upd (List.mem_cons_self ..)
      refine ⟨_, _, _, _, _, xs ++ [.ref ev], es ++ [.dep], rfl, (R15.same s6).mut hst, upd_same, ?_, by rw [List.length_append, hel]; rfl, fun e he => ?_, ?_, fun n hn => ?_⟩
      · rw [List.map_append]
        refine dps_app (dps_same ((GoD.of s6).trans gD) hxs5) (.cons (dp_same gD (.tup (sqt_offS he6 nev) (.cons (.str _) .nil))) .nil)
      · rcases List.mem_append.mp he with he | he
        · exact hev e he
        · rw [List.mem_singleton.mp he]
          trivial
      · have : nosE (es ++ [.dep]) = nosE es := by
          unfold nosE
          rw [List.flatMap_append]
          exact List.append_nil _
        rw [this]
        exact hnd
      · have : nosE (es ++ [.dep]) = nosE es := by
          unfold nosE
          rw [List.flatMap_append]
          exact List.append_nil _
        rw [this] at hn
        obtain ⟨j, h1, h2⟩ := hmod n hn
        exact ⟨j, by omega, h2⟩
    · -- a push
      refine ⟨tp, ca, k, rfl, rfl, by omega, R5.b, fun H6 n R6 n0 n1 nk => ?_⟩
      refine ⟨tp, ca, T.low [] + T.lf, fw, rfl, rfl, rfl, hfw, by omega, R6.b, fun H7 qi R7 hqi => ?_⟩
      have R17 := R'.trans (R5.trans (R6.trans R7))
      have hp : (lv T)[qi]? = some ((lv T)[qi]'(by show qi < T.lf; omega)) := List.getElem?_eq_getElem _
      generalize (lv T)[qi]'(by show qi < T.lf; omega) = p at hp
      have hE7 := hE.keep R17.g hS hB
      have hph := ht_path (List.mem_of_getElem? hp)
      refine ⟨_, rfl, _, rfl, sp, T, RB, qi, p, rfl, hE7.rd, hht, hno, hp, fun H8 s8 => ⟨_, _, rfl, rfl, ?_⟩⟩
      have R18 := R17.same s8
      have hst8 := s8 _ _ ((R5.trans (R6.trans R7)).at hst' nst)
      have hxs8 := dps_same (((R5.trans (R6.trans R7)).same s8).g.d mS1) hxs
      refine ⟨((p.length + 1 : Nat) : Int), rfl, by omega, by omega, fun rl hrl => ?_⟩
      have nrl := tps_no R18.b hrl
      have hrl0 := R18.free hrl
      have nrs : rl ≠ st := fun z => by rw [z, hst8] at hrl; exact nomatch hrl
      refine lc_range (lo := 0) (n := p.length + 1) (fun j H' => ∃ (vs : List V) (rs : List (List Int)), Rn K tp ca H8 H' ∧ H' rl = some (.lst vs) ∧ DpAll K (offS (st :: S) H') vs (rs.map intsD) ∧ rs.length = j ∧ ∀ r ∈ rs, RankI r) ⟨[], [], (Rn.of R18.b (same_new hrl)), upd_same, .nil, rfl, (fun r h => nomatch h)⟩ ?_ ?_
      · rintro j H9 hj ⟨vs, rs, R9, hl9, hv9, hrs, hrk⟩
        refine ⟨rfl, _, rfl, tp, ca, rfl, R9.b, fun H10 ra ns R10 hns hra hra10 => ?_⟩
        have hl10 := R10.at hl9 nrl
        have hvl := dps_len hv9
        rw [List.length_map] at hvl
        have in9 : InD (st :: S) H9 := fun y hy => by
          rcases List.mem_cons.mp hy with rfl | hy
          · rw [R9.at hst8 nst]; exact fun z => nomatch z
          · exact (R18.trans R9).g.k y (hE.ind y hy)
        have nra := in9.new hra
        have hns10 : Dp K (offS (st :: S) H10) (.ref ra) (intsD ns) := .tup (sqt_offS hra10 nra) (by
          have : ∀ l : List Int, DpAll K (offS (st :: S) H10) (l.map V.int) (l.map PyData.int) := fun l => by
            induction l with
            | nil => exact .nil
            | cons i l ih => exact .cons (.int i) ih
          exact this ns)
        refine ⟨_, hl10, small1000 (by omega), vs ++ [.ref ra], rs ++ [ns], ?_, upd_same, ?_, by rw [List.length_append, hrs]; rfl, fun r hr' => ?_⟩
        · exact (R9.trans R10).mut hrl
        · have nrl2 : offS (st :: S) H9 = offS (st :: S) H9 := rfl
          have e10 : Same (offS (st :: S) H9) (offS (st :: S) H10) := R10.g.d mS1
          have keep : KeepT (offS (st :: S) H10) (offS (st :: S) (upd H10 rl (.lst (vs ++ [.ref ra])))) := fun y ys => ⟨fun h => by
            obtain ⟨h1, h2⟩ := offS_some h
            rw [offS_ne h1, upd_ne (fun z => by rw [z, hl10] at h2; exact nomatch h2)]
            exact h2, fun o h => by
            obtain ⟨h1, h2⟩ := offS_some h
            rw [offS_ne h1, upd_ne (fun z => by rw [z, hl10] at h2; exact nomatch h2)]
            exact h2⟩
          rw [List.map_append]
          refine dps_app (dps_keep keep (dps_same e10 hv9) (noL_ranks rs)) (dps_keep keep (.cons hns10 .nil) (noL_ranks [ns]))
        · rcases List.mem_append.mp hr' with hr' | hr'
          · exact hrk r hr'
          · rw [List.mem_singleton.mp hr']
            exact hns
      · rintro H9 ⟨vs, rs, R9, hl9, hv9, hrs, hrk⟩
        have hst9 := R9.at hst8 nst
        refine ⟨_, rfl, .inl ⟨rfl, _, SqL.of hst9⟩, ?_⟩
        refine ⟨_, rfl, _, rfl, _, rfl, rl, _, rfl, .inl ⟨SqL.of hl9, fun rt hrt => ⟨(by show 4 ≤ sizeLine; decide), fun ev hev' => ?_⟩⟩⟩
        have in9 : InD (st :: S) H9 := fun y hy => by
          rcases List.mem_cons.mp hy with rfl | hy
          · rw [hst9]; exact fun z => nomatch z
          · exact (R18.trans R9).g.k y (hE.ind y hy)
        have hrt9 : Dp K (offS (st :: S) (upd H9 rt (.tup vs))) (.ref rt) (.tuple (rs.map intsD)) := dpn in9 hrt hv9
        have s10 := same_new (o := .tup vs) hrt
        revert s10 hrt9 hev'
        generalize upd H9 rt (.tup vs) = H10
        intro hev' hrt9 s10
        have in10 := in9.same s10
        have s11 := same_new (o := .tup [.str "push", .int n, .int (qi : Nat), .ref rt]) hev'
        have he11 := dpn in10 hev' (.cons (.str "push") (.cons (.int n) (.cons (.int ((qi : Nat) : Int)) (.cons hrt9 .nil))))
        revert s11 he11
        generalize upd H10 ev (.tup [.str "push", .int n, .int (qi : Nat), .ref rt]) = H11
        intro s11 he11
        have s911 := Same.trans s10 s11
        have hst11 := s911 _ _ hst9
        refine ⟨st, _, _, rfl, rfl, hst11, small1000 (by omega), ?_⟩
        have gD : GoD (st :: S) H11 (upd H11 st (.lst (xs ++ [.ref ev]))) := GoD.refl.upd (List.mem_cons_self ..)
        have nnew : n ∉ nosE es := fun z => by
          obtain ⟨j, h1, h2⟩ := hmod n z
          omega
        have enos : nosE (es ++ [.psh n qi rs]) = nosE es ++ [n] := by
          unfold nosE
          rw [List.flatMap_append]
          rfl
        refine ⟨_, _, _, _, _, xs ++ [.ref ev], es ++ [.psh n qi rs], rfl, ((R18.trans R9).same s911).mut hst, upd_same, ?_, by rw [List.length_append, hel]; rfl, fun e he => ?_, ?_, fun m hm => ?_⟩
        · rw [List.map_append]
          exact dps_app (dps_same (Same.trans (R9.g.d mS1) ((GoD.of s911).trans gD)) hxs8) (.cons (dp_same gD he11) .nil)
        · rcases List.mem_append.mp he with he | he
          · exact hev e he
          · rw [List.mem_singleton.mp he]
            exact ⟨p, hp, hrs, fun r hr' => rank_intsD (hrk r hr'), n0, n1⟩
        · rw [enos]
          exact List.nodup_append.mpr ⟨hnd, List.pairwise_singleton _ _, fun y hy z hz e => nnew (by rw [← List.mem_singleton.mp hz, ← e]; exact hy)⟩
        · rw [enos] at hm
          rcases List.mem_append.mp hm with hm | hm
          · obtain ⟨j, h1, h2⟩ := hmod m hm
            exact ⟨j, by omega, h2⟩
          · rw [List.mem_singleton.mp hm]
            exact ⟨k, by omega, nk⟩
  · rintro σ H' ⟨o6, o7, o8, o9, o10, xs, es, rfl, R', hst', hxs, hel, hev, hnd, _⟩
    refine ⟨_, rfl, st, _, rfl, .inl ⟨SqL.of hst', fun a ha => ?_⟩⟩
    have in' : InD (st :: S) H' := fun y hy => by
      rcases List.mem_cons.mp hy with rfl | hy
      · rw [hst']; exact fun z => nomatch z
      · exact R'.g.k y (hE.ind y hy)
    exact q _ a es (R'.same (same_new ha)) (R'.free ha) (dp_same (offS_sub fun y hy => List.mem_cons_of_mem _ hy) (dpn in' ha hxs)) ⟨hev, hnd⟩ (by omega)
end
end K65
set_option Elab.async false
set_option linter.all false
set_option maxRecDepth 100000
set_option maxHeartbeats 4000000
namespace PySem
open PySem.Spec PyProof.Rows
open Sem (wp)
open AutoSeq1 (wpAny_loadPart')
/-- a tuple of whole numbers -/
def T1 (h : Heap) (v : Value) (k : List Int) : Prop := ∃ (a : Addr) (its : Array Value), v = .ref a ∧ IsTup h a its ∧ IntsAre its.toList k
theorem T1.keeps {h h' : Heap} {v : Value} {k : List Int} (x : T1 h v k) (kp : ∀ b o, h.get? b = some o → h'.get? b = some o) : T1 h' v k := by
  obtain ⟨a, its, e, ⟨o, ho, hc⟩, q⟩ := x
  exact ⟨a, its, e, ⟨o, kp _ _ ho, hc⟩, q⟩
theorem T1.keepsN {h h' : Heap} {v : Value} {k : List Int} {I l : Addr} {j : Nat} (x : T1 h v k) (kp : ∀ b o, b ≠ I → h.get? b = some o → h'.get? b = some o) (hI : h.IsListIter I l j) : T1 h' v k := by
  obtain ⟨a, its, e, ⟨o, ho, hc⟩, q⟩ := x
  obtain ⟨oI, hoI, hcI, _⟩ := hI
  have ne : ∀ b o, h.get? b = some o → o.cls = .type "tuple" → b ≠ I := fun b o hb hc z => by
    rw [z, hoI] at hb
    rw [← Option.some.inj hb, hcI] at hc
    exact absurd hc (by decide)
  exact ⟨a, its, e, ⟨o, kp _ _ (ne _ _ ho hc.1) ho, hc⟩, q⟩
theorem units_min {c : Args} : (Code.builtin "min.loop" c).cUnits ≤ 1 := Nat.le_of_eq rfl
theorem get_upd_list {h : Heap} {S : Addr} {xs : Array Value} {c : Nat} (f : Array Value → Array Value) (hS : h.get? S = some (seqObj "list" xs c)) : ∃ c', (h.update S (Obj.mapSeq f)).get? S = some (seqObj "list" (f xs) c') := by
  obtain ⟨objs, life⟩ := h
  have e : objs[S]? = some (seqObj "list" xs c) := by
    unfold Heap.get? at hS
    dsimp only at hS
    cases q : objs[S]? with
    | none =>
      rw [q] at hS
      exact nomatch hS
    | some o =>
      rw [q] at hS
      obtain ⟨cls, dd, data, sl⟩ := o
      cases data <;> first | exact hS | exact nomatch hS
  refine ⟨if (f xs).size == xs.size then c else c + 1, ?_⟩
  show Heap.get? ⟨objs.modify S (Obj.mapSeq f), life⟩ S = _
  unfold Heap.get?
  dsimp only
  rw [Array.getElem?_modify, if_pos rfl, e]
  rfl
theorem lex_irr1 : ∀ xs : List Int, HT.lexLt xs xs = false := fun xs => by
  cases h : HT.lexLt xs xs with
  | false => rfl
  | true => exact absurd (h.symm.trans (NtL.lex_asym xs xs h)) (by decide)
theorem lex_tot1 : ∀ xs ys : List Int, HT.lexLt xs ys = false → HT.lexLt ys xs = false → xs = ys := by
  intro xs
  induction xs with
  | nil => intro ys h1 h2; cases ys with
    | nil => rfl
    | cons y ys => exact nomatch h1
  | cons x xs ih => intro ys h1 h2; cases ys with
    | nil => exact nomatch h2
    | cons y ys =>
      rw [HT.lexLt_cons] at h1 h2
      by_cases e : x = y
      · subst e
        rw [if_pos rfl] at h1 h2
        rw [ih ys h1 h2]
      · rw [if_neg e] at h1
        rw [if_neg (Ne.symm e)] at h2
        have a := of_decide_eq_false h1
        have b := of_decide_eq_false h2
        omega
theorem lex_tr1 {a b c : List Int} (h1 : HT.lexLt a b = false) (h2 : HT.lexLt b c = false) : HT.lexLt a c = false := NtL.lex_tr c b a h2 h1
section
variable {prog : Program} {w : World} {A : Around} {E : Value → Shared → Prop} {s : Shared}
theorem lt1 {v u : Value} {p q : List Int} {Q : Value → Shared → Prop} (h1 : T1 s.heap v p) (h2 : T1 s.heap u q) (hu : A.units + 1 < cLine) (h : Q (.bool (HT.lexLt p q)) s) : wpAny (model prog w) A (richCompare CmpOp.Lt v u) Q E s := by
  obtain ⟨a, its, rfl, b1, c1⟩ := h1
  obtain ⟨b, jts, rfl, b2, c2⟩ := h2
  exact HT.lt_tupInts b1 b2 c1 c2 (by omega) h
end
section
variable {prog : Program} {w : World} {A : Around} {s : Shared} {R : Result → Shared → Prop}
theorem min_step1 {l I S : Addr} {its : List Value} {k : Value → List Int} {h : Heap} {tk j c : Nat} {v x : Value} (hu : A.units + 9 < cLine) (hv : T1 h v (k v)) (hx : T1 h x (k x)) (hIS : I ≠ S) (hIl : I ≠ l)
    (hl : h.IsList l its.toArray) (hj : its.toArray[j]? = some x) (hI : h.IsListIter I l j) (hS : h.get? S = some (seqObj "list" #[v, v] c)) (hkI : T1 (h.update S fun o => o) v (k v) → True)
    (hR : ∀ h' tk' v' c', (∀ b o, b ≠ I → b ≠ S → h.get? b = some o → h'.get? b = some o) → h'.IsListIter I l (j + 1) → h'.get? S = some (seqObj "list" #[v', v'] c') → v' = (if HT.lexLt (k x) (k v) then x else v) → codeAny (model prog w) A (Code.builtin "min.loop" { pos := [.ref I, .none, .ref S] }) R { s with heap := h', toks := tk' }) :
    codeAny (model prog w) A (Code.builtin "min.loop" { pos := [.ref I, .none, .ref S] }) R { s with heap := h, toks := tk } := by
  refine codeAny_builtin F.entry_min_loop ?_
  unfold Builtin.«min.loop»
  generalize hA' : A.under (Code.builtin "min.loop" { pos := [Value.ref I, Value.none, Value.ref S] }) = A'
  have hnx : ∀ {E : Value → Shared → Prop} {Q : Option Value → Shared → Prop} {kk : Value → Sem (Option Value)}, (∀ h' : Heap, h'.IsListIter I l (j + 1) → Heap.SameBut I h h' → Q (some x) { s with heap := h', toks := tk }) → wpAny (model prog w) A' (tryCatch (pyNext (Value.ref I)) kk) Q E { s with heap := h, toks := tk } := fun hq => wpAny_tryCatch (wpAny_pyNext_list_item (s := { s with heap := h, toks := tk }) hI hl hj hq)
  have hnx' : ∀ {E : Value → Shared → Prop} {kk : Value → Sem (Option Value)} {ft : Option Value → Sem Fin}, (∀ h' : Heap, h'.IsListIter I l (j + 1) → Heap.SameBut I h h' → wpAny (model prog w) A' (ft (some x)) (fun fin s' => match fin with | .done f => R (.ok f) s' | .again c' => c'.quiet = true ∧ codeAny (model prog w) A c' R s') E { s with heap := h', toks := tk }) → wpAny (model prog w) A' (tryCatch (pyNext (Value.ref I)) kk >>= ft) (fun fin s' => match fin with | .done f => R (.ok f) s' | .again c' => c'.quiet = true ∧ codeAny (model prog w) A c' R s') E { s with heap := h, toks := tk } := fun hq => wpAny_bind (hnx hq)
  refine wpAny_bind (wpAny_seqItems (s := { s with heap := h, toks := tk }) hS rfl ?_)
  refine hnx' fun h' hI' hsb => ?_
  have hkp : ∀ b o, b ≠ I → h.get? b = some o → h'.get? b = some o := fun b o n e => by rw [hsb.2 b n]; exact e
  have hv' : T1 h' v (k v) := hv.keepsN hkp hI
  have hx' : T1 h' x (k x) := hx.keepsN hkp hI
  have hS' : h'.get? S = some (seqObj "list" #[v, v] c) := hkp S _ hIS.symm hS
  have huA : A'.units + 1 < cLine := by
    rw [← hA']
    exact Nat.lt_of_le_of_lt (Nat.add_le_add_right (Nat.add_le_add_left units_min _) 1) (by omega)
  have hcmp : ∀ {E : Value → Shared → Prop} {Q : Bool → Shared → Prop} {kk : Value → Sem Bool}, Q (HT.lexLt (k x) (k v)) { s with heap := h', toks := tk } → wpAny (model prog w) A' (tryCatch (holding [x, x] (do
      let answer ← richCompare CmpOp.Lt x v
      let yes ← holding [answer] (truthy answer)
      letGo [answer]
      pure yes)) kk) Q E { s with heap := h', toks := tk } := fun hq => wpAny_tryCatch (wpAny_holding (wpAny_bind (lt1 (s := { s with heap := h', toks := tk }) hx' hv' huA (wpAny_bind (wpAny_holding (wpAny_truthy_bool (wpAny_bind (wpAny_letGo (wpAny_pure hq)))))))))
  refine wpAny_bind (wpAny_pure ?_)
  refine wpAny_bind (hcmp ?_)
  have kpS : ∀ f b o, b ≠ I → b ≠ S → h.get? b = some o → (h'.update S f).get? b = some o := fun f b o n1 n2 e => by
    rw [Heap.get?_update_ne _ _ _ _ n2]
    exact hkp b o n1 e
  cases hc : HT.lexLt (k x) (k v) with
  | true =>
    rw [if_pos rfl]
    refine wpAny_bind (wpAny_updateSeq (s := { s with heap := h', toks := tk }) hS' rfl (wpAny_bind (wpAny_letGo ?_)) (by show 2 ≤ sizeLine; decide) (by show 2 ≤ sizeLine + 1; decide))
    obtain ⟨c2, hc2⟩ := get_upd_list (fun _ => #[x, x]) hS'
    refine wpAny_pure (a := Fin.again _) ?_
    obtain ⟨oI, hoI, hcI, hdI⟩ := hI'
    refine ⟨rfl, hR _ tk x _ (kpS _) ⟨oI, ?_, hcI, hdI⟩ hc2 (by rw [hc, if_pos rfl])⟩
    rw [Heap.get?_update_ne _ _ _ _ hIS]
    exact hoI
  | false =>
    rw [if_neg (by decide)]
    refine wpAny_bind (wpAny_letGo ?_)
    refine wpAny_pure (a := Fin.again _) ?_
    exact ⟨rfl, hR _ tk v c (fun b o n1 n2 e => hkp b o n1 e) hI' hS' (by rw [hc, if_neg (by decide)])⟩
theorem min_first1 {l I S : Addr} {its : List Value} {h : Heap} {tk c : Nat} {x : Value} (hIS : I ≠ S)
    (hl : h.IsList l its.toArray) (hj : its.toArray[0]? = some x) (hI : h.IsListIter I l 0) (hS : h.get? S = some (seqObj "list" #[] c))
    (hR : ∀ h' tk' c', (∀ b o, b ≠ I → b ≠ S → h.get? b = some o → h'.get? b = some o) → h'.IsListIter I l 1 → h'.get? S = some (seqObj "list" #[x, x] c') → codeAny (model prog w) A (Code.builtin "min.loop" { pos := [.ref I, .none, .ref S] }) R { s with heap := h', toks := tk' }) :
    codeAny (model prog w) A (Code.builtin "min.loop" { pos := [.ref I, .none, .ref S] }) R { s with heap := h, toks := tk } := by
  refine codeAny_builtin F.entry_min_loop ?_
  unfold Builtin.«min.loop»
  generalize hA' : A.under (Code.builtin "min.loop" { pos := [Value.ref I, Value.none, Value.ref S] }) = A'
  have hnx' : ∀ {E : Value → Shared → Prop} {kk : Value → Sem (Option Value)} {ft : Option Value → Sem Fin}, (∀ h' : Heap, h'.IsListIter I l 1 → Heap.SameBut I h h' → wpAny (model prog w) A' (ft (some x)) (fun fin s' => match fin with | .done f => R (.ok f) s' | .again c' => c'.quiet = true ∧ codeAny (model prog w) A c' R s') E { s with heap := h', toks := tk }) → wpAny (model prog w) A' (tryCatch (pyNext (Value.ref I)) kk >>= ft) (fun fin s' => match fin with | .done f => R (.ok f) s' | .again c' => c'.quiet = true ∧ codeAny (model prog w) A c' R s') E { s with heap := h, toks := tk } := fun hq => wpAny_bind (wpAny_tryCatch (wpAny_pyNext_list_item (s := { s with heap := h, toks := tk }) hI hl hj hq))
  refine wpAny_bind (wpAny_seqItems (s := { s with heap := h, toks := tk }) hS rfl ?_)
  refine hnx' fun h' hI' hsb => ?_
  have hkp : ∀ b o, b ≠ I → h.get? b = some o → h'.get? b = some o := fun b o n e => by rw [hsb.2 b n]; exact e
  have hS' : h'.get? S = some (seqObj "list" #[] c) := hkp S _ hIS.symm hS
  refine wpAny_bind (wpAny_pure ?_)
  refine wpAny_bind (wpAny_updateSeq (s := { s with heap := h', toks := tk }) hS' rfl ?_ (by show 0 ≤ sizeLine; decide) (by show 2 ≤ sizeLine + 1; decide))
  obtain ⟨c2, hc2⟩ := get_upd_list (fun _ => #[x, x]) hS'
  refine wpAny_pure (a := Fin.again _) ?_
  obtain ⟨oI, hoI, hcI, hdI⟩ := hI'
  refine ⟨rfl, hR _ tk _ (fun b o n1 n2 e => ?_) ⟨oI, ?_, hcI, hdI⟩ hc2⟩
  · rw [Heap.get?_update_ne _ _ _ _ n2]
    exact hkp b o n1 e
  · rw [Heap.get?_update_ne _ _ _ _ hIS]
    exact hoI
theorem min_end1 {l I S : Addr} {its : List Value} {h : Heap} {tk c : Nat} {v : Value} (hh : A.handled = none) (hIS : I ≠ S)
    (hl : h.IsList l its.toArray) (hI : h.IsListIter I l its.length) (hS : h.get? S = some (seqObj "list" #[v, v] c))
    (hR : ∀ h' tk', (∀ b o, b ≠ I → b ≠ S → h.get? b = some o → h'.get? b = some o) → R (.ok (.ret v)) { s with heap := h', toks := tk' }) :
    codeAny (model prog w) A (Code.builtin "min.loop" { pos := [.ref I, .none, .ref S] }) R { s with heap := h, toks := tk } := by
  refine codeAny_builtin F.entry_min_loop ?_
  unfold Builtin.«min.loop»
  have hhA : (A.under (Code.builtin "min.loop" { pos := [Value.ref I, Value.none, Value.ref S] })).handled = none := hh
  generalize hA' : A.under (Code.builtin "min.loop" { pos := [Value.ref I, Value.none, Value.ref S] }) = A' at hhA
  have hj : its.toArray[its.length]? = none := by simp
  have hnx' : ∀ {E : Value → Shared → Prop} {kk : Value → Sem (Option Value)} {ft : Option Value → Sem Fin}, (∀ h' : Heap, Heap.ExtBut I h h' → wpAny (model prog w) A' (ft none) (fun fin s' => match fin with | .done f => R (.ok f) s' | .again c' => c'.quiet = true ∧ codeAny (model prog w) A c' R s') E { s with heap := h', toks := tk }) → wpAny (model prog w) A' (tryCatch (pyNext (Value.ref I)) kk >>= ft) (fun fin s' => match fin with | .done f => R (.ok f) s' | .again c' => c'.quiet = true ∧ codeAny (model prog w) A c' R s') E { s with heap := h, toks := tk } := fun hq => wpAny_bind (wpAny_tryCatch (wpAny_pyNext_list_end (s := { s with heap := h, toks := tk }) hhA hI hl hj hq))
  refine wpAny_bind (wpAny_seqItems (s := { s with heap := h, toks := tk }) hS rfl ?_)
  refine hnx' fun h' hsb => ?_
  have hS' : h'.get? S = some (seqObj "list" #[v, v] c) := hsb S _ hIS.symm hS
  refine wpAny_bind (wpAny_updateSeq (s := { s with heap := h', toks := tk }) hS' rfl (wpAny_bind (wpAny_letGo ?_)) (by show 2 ≤ sizeLine; decide) (by show 0 ≤ sizeLine + 1; decide))
  refine wpAny_pure (a := Fin.done (.ret v)) ?_
  refine hR _ tk fun b o n1 n2 e => ?_
  rw [Heap.get?_update_ne _ _ _ _ n2]
  exact hsb b o n1 e
theorem min_loop1 {l I S : Addr} {its : List Value} {k : Value → List Int} (hu : A.units + 9 < cLine) (hh : A.handled = none) (hk : ∀ v ∈ its, T1 s.heap v (k v)) (hIS : I ≠ S)
    (hl : s.heap.IsList l its.toArray) (hR : ∀ v h' tk, v ∈ its → (∀ u ∈ its, HT.lexLt (k u) (k v) = false) → (∀ b o, s.heap.get? b = some o → h'.get? b = some o) → R (.ok (.ret v)) { s with heap := h', toks := tk }) (hI0 : s.heap.get? I = none) (hS0 : s.heap.get? S = none) (hIl : I ≠ l) :
    ∀ (r j : Nat) (h : Heap) (tk : Nat) (v : Value) (c : Nat), its.length - j = r → j ≤ its.length → (∀ b o, s.heap.get? b = some o → h.get? b = some o) → h.IsListIter I l j → h.get? S = some (seqObj "list" #[v, v] c) →
      v ∈ its.take j → (∀ u ∈ its.take j, HT.lexLt (k u) (k v) = false) →
      codeAny (model prog w) A (Code.builtin "min.loop" { pos := [.ref I, .none, .ref S] }) R { s with heap := h, toks := tk } := by
  intro r
  induction r with
  | zero =>
    intro j h tk v c hr hj kp hI hS hv hmin
    obtain rfl : j = its.length := by omega
    rw [List.take_length] at hv hmin
    refine min_end1 (its := its) hh hIS ?_ hI hS fun h' tk' kp' => hR v h' tk' hv hmin fun b o e => kp' b o (fun z => by rw [z, hI0] at e; exact nomatch e) (fun z => by rw [z, hS0] at e; exact nomatch e) (kp b o e)
    obtain ⟨o, ho, hc⟩ := hl
    exact ⟨o, kp _ _ ho, hc⟩
  | succ r ih =>
    intro j h tk v c hr hj kp hI hS hv hmin
    have hjl : j < its.length := by omega
    have hx : its.toArray[j]? = some its[j] := by simp [hjl]
    have hvi : v ∈ its := List.mem_of_mem_take hv
    have hxi : its[j] ∈ its := List.getElem_mem hjl
    refine min_step1 (k := k) (its := its) hu ((hk v hvi).keeps kp) ((hk _ hxi).keeps kp) hIS hIl ?_ hx hI hS (fun _ => trivial) fun h' tk' v' c' kp' hI' hS' ev => ?_
    · obtain ⟨o, ho, hc⟩ := hl
      exact ⟨o, kp _ _ ho, hc⟩
    have kp2 : ∀ b o, s.heap.get? b = some o → h'.get? b = some o := fun b o e => kp' b o (fun z => by rw [z, hI0] at e; exact nomatch e) (fun z => by rw [z, hS0] at e; exact nomatch e) (kp b o e)
    have htk : its.take (j + 1) = its.take j ++ [its[j]] := by rw [List.take_succ_eq_append_getElem hjl]
    refine ih (j + 1) h' tk' v' c' (by omega) hjl kp2 hI' hS' ?_ ?_
    · rw [htk, ev]
      split
      · exact List.mem_append_right _ (List.mem_singleton.mpr rfl)
      · exact List.mem_append_left _ hv
    · intro u hu2
      rw [htk] at hu2
      rw [ev]
      rcases List.mem_append.mp hu2 with hu2 | hu2
      · split
        · rename_i hlt
          exact lex_tr1 (hmin u hu2) (NtL.lex_asym _ _ hlt)
        · exact hmin u hu2
      · rw [List.mem_singleton.mp hu2]
        split
        · exact lex_irr1 _
        · rename_i hlt
          cases z : HT.lexLt (k its[j]) (k v) with
          | true => exact absurd z hlt
          | false => rfl
end
theorem meets_min1 (l : Addr) (its : List Value) (k : Value → List Int) : Meets (Builtin.min ⟨[.ref l], []⟩) (fun A R s =>
      0 < its.length ∧ A.units + 12 < cLine ∧ A.handled = none ∧ s.heap.IsList l its.toArray ∧ (∀ v ∈ its, T1 s.heap v (k v)) ∧
      (∀ v h' tk, v ∈ its → (∀ u ∈ its, HT.lexLt (k u) (k v) = false) → (∀ b o, s.heap.get? b = some o → h'.get? b = some o) → R (.ok (.ret v)) { s with heap := h', toks := tk })) := by
  intro prog w A R s h
  obtain ⟨h0, hu, hh, hl, hk, hR⟩ := h
  unfold Builtin.min
  wp_walk using wpAny_pyIter_list hl
  have hz : (s.heap.push { cls := Value.type "list_iterator", data := Data.fields #[Value.ref l, Value.int 0 0] }).objs.size = s.heap.objs.size + 1 := Heap.size_push ..
  rw [hz]
  show (Code.builtin "min.loop" { pos := [.ref s.heap.objs.size, .none, .ref (s.heap.objs.size + 1)] }).quiet = true ∧ codeAny (model prog w) A (Code.builtin "min.loop" { pos := [.ref s.heap.objs.size, .none, .ref (s.heap.objs.size + 1)] }) R { s with heap := (s.heap.push { cls := .type "list_iterator", data := .fields #[.ref l, .int 0 0] }).push { cls := .type "list", data := .seq #[] }, toks := s.toks }
  refine ⟨rfl, ?_⟩
  have g1 := Heap.get?_push_size s.heap (o := { cls := .type "list_iterator", data := .fields #[.ref l, .int 0 0] }) rfl
  have g2 := Heap.get?_push_size (s.heap.push { cls := .type "list_iterator", data := .fields #[.ref l, .int 0 0] }) (o := { cls := .type "list", data := .seq #[] }) rfl
  rw [hz] at g2
  have kp : ∀ b o, s.heap.get? b = some o → ((s.heap.push { cls := .type "list_iterator", data := .fields #[.ref l, .int 0 0] }).push { cls := .type "list", data := .seq #[] }).get? b = some o := fun b o e => Heap.get?_push_of_some _ (Heap.get?_push_of_some _ e)
  have gI := Heap.get?_push_of_some ({ cls := .type "list", data := .seq #[] } : Obj) g1
  have n1 : s.heap.get? s.heap.objs.size = none := by
    cases e : s.heap.get? s.heap.objs.size with
    | none => rfl
    | some o => exact absurd (Heap.lt_size e) (Nat.lt_irrefl _)
  have n2 : s.heap.get? (s.heap.objs.size + 1) = none := by
    cases e : s.heap.get? (s.heap.objs.size + 1) with
    | none => rfl
    | some o => exact absurd (Heap.lt_size e) (Nat.not_lt_of_le (Nat.le_add_right _ 1))
  have hll : s.heap.objs.size ≠ l := by
    obtain ⟨o, ho, _⟩ := hl
    exact fun z => absurd (Heap.lt_size ho) (by rw [← z]; exact Nat.lt_irrefl _)
  have hx : its.toArray[0]? = some (its[0]'h0) := by simp [h0]
  have hl2 : ((s.heap.push { cls := .type "list_iterator", data := .fields #[.ref l, .int 0 0] }).push { cls := .type "list", data := .seq #[] }).IsList l its.toArray := by
    obtain ⟨o, ho, hc⟩ := hl
    exact ⟨o, kp _ _ ho, hc⟩
  refine min_first1 (its := its) (Nat.ne_of_lt (Nat.lt_succ_self _)) hl2 hx ⟨_, gI, rfl, rfl⟩ g2 fun h' tk' c' kp' hI' hS' => ?_
  refine min_loop1 (s := s) (k := k) (its := its) (by omega) hh hk (Nat.ne_of_lt (Nat.lt_succ_self _)) hl hR n1 n2 hll _ 1 h' tk' _ c' rfl h0 (fun b o e => ?_) hI' hS' ?_ ?_
  · refine kp' b o (fun z => ?_) (fun z => ?_) (kp b o e)
    · rw [z, n1] at e
      exact nomatch e
    · rw [z, n2] at e
      exact nomatch e
  · rw [List.take_succ_eq_append_getElem h0]
    exact List.mem_append_right _ (List.mem_singleton.mpr rfl)
  · intro u hu2
    rw [List.take_succ_eq_append_getElem h0] at hu2
    have : u = its[0] := by simpa using hu2
    rw [this]
    exact lex_irr1 _
end PySem
namespace L2
open PySem PySem.Spec PyProof.Rows
/-! ### min(xs): tuples of whole numbers -/
def TupI (K : PySem.W.Frag) (H : Hp) (x : V) (k : List Int) : Prop := ∃ a : Addr, x = .ref a ∧ SqT K H a (k.map V.int)
def toValR : V → Value | .ref a => .ref a | _ => .none
theorem vals_ref : ∀ {ys : List V} {its : List Value}, Vals ys its → (∀ y ∈ ys, ∃ a, y = .ref a) → its = ys.map toValR
  | _, _, .nil, _ => rfl
  | y :: ys, u :: us, .cons r t, h => by
    obtain ⟨a, rfl⟩ := h y (List.mem_cons_self ..)
    have e : u = .ref a := r
    rw [e, vals_ref t fun z hz => h z (List.mem_cons_of_mem _ hz)]
    rfl
theorem ints_vals3 : ∀ {ns : List Int} {us : List Value}, Vals (ns.map V.int) us → IntsAre us ns
  | [], _, h => by
    cases h
    exact .nil
  | n :: ns, _, h => by
    cases h with
    | cons r t =>
      obtain ⟨tk, rfl⟩ := r
      exact .cons n tk (ints_vals3 t)
theorem paired_at {α β : Type} {F : α → β → Prop} : ∀ {a : List α} {b : List β}, Paired F a b → ∀ {i : Nat} {x : α}, a[i]? = some x → ∃ y, b[i]? = some y ∧ F x y
  | _, _, .nil, i, x, h => by simp at h
  | _, _, .cons r t, 0, x, h => by
    have : _ = x := Option.some.inj h
    subst this
    exact ⟨_, rfl, r⟩
  | _, _, .cons r t, i + 1, x, h => by
    obtain ⟨y, h1, h2⟩ := paired_at t (i := i) (x := x) (by simpa using h)
    exact ⟨y, by simpa using h1, h2⟩
theorem paired_len {α β : Type} {F : α → β → Prop} : ∀ {a : List α} {b : List β}, Paired F a b → a.length = b.length
  | _, _, .nil => rfl
  | _, _, .cons _ t => congrArg (· + 1) (paired_len t)
def rMinT (K : PySem.W.Frag) : List V → Hp → VK → Prop := fun vs H Q => ∃ (l : Addr) (xs : List V) (ks : List (List Int)), vs = [.ref l] ∧ SqL K H l xs ∧ 0 < xs.length ∧ Paired (TupI K H) xs ks ∧
  ∀ (i : Nat) x kx, xs[i]? = some x → ks[i]? = some kx → (∀ ky ∈ ks, HT.lexLt ky kx = false) → Q x H
theorem intsAre_fn1 : ∀ {l : List Value} {ns ms : List Int}, IntsAre l ns → IntsAre l ms → ns = ms
  | _, _, _, .nil, .nil => rfl
  | _, _, _, .cons n t h, .cons _ _ h' => by rw [intsAre_fn1 h h']
theorem t1_fun {h : Heap} {v : Value} {p q : List Int} (a : T1 h v p) (b : T1 h v q) : p = q := by
  obtain ⟨a1, its, rfl, ⟨o, ho, hc, n, hd⟩, i1⟩ := a
  obtain ⟨b1, jts, e, ⟨o', ho', hc', n', hd'⟩, i2⟩ := b
  injection e with e
  subst e
  rw [ho] at ho'
  obtain rfl := Option.some.inj ho'
  rw [hd] at hd'
  injection hd' with hd' _
  subst hd'
  exact intsAre_fn1 i1 i2
theorem cr_minT {X : Cx} (hc : X.calm = true) (hu : X.A.units + 65 < cLine) : CallR X (.builtin "min") (rMinT X.K) := by
  intro pins s σ H xs us Q I r h
  obtain ⟨l, ys, ks, rfl, hl, h0, hk, q⟩ := h
  cases r with
  | cons r rr =>
  cases rr
  cases r
  obtain ⟨its, rv, p, _⟩ := I.list hl
  have hlen := rv.length
  have hkl := paired_len hk
  have hits : its = ys.map toValR := vals_ref rv fun x hx => by
    obtain ⟨i, hi⟩ := List.mem_iff_getElem?.mp hx
    obtain ⟨kx, _, a, e, _⟩ := paired_at hk hi
    exact ⟨a, e⟩
  subst hits
  have hk3 : ∀ (i : Nat) y kx, ys[i]? = some y → ks[i]? = some kx → T1 s.heap (toValR y) kx := fun i y kx hy hx => by
    obtain ⟨kx', e, a, rfl, h1⟩ := paired_at hk hy
    rw [hx] at e
    obtain rfl := Option.some.inj e
    obtain ⟨is1, r1, p1, _⟩ := I.tuple h1
    exact ⟨a, is1.toArray, rfl, p1, ints_vals3 r1⟩
  have hval : ∀ (i : Nat) v, (ys.map toValR)[i]? = some v → ∃ kx, ks[i]? = some kx ∧ T1 s.heap v kx := fun i v hv => by
    rw [List.getElem?_map] at hv
    obtain ⟨y, hy, rfl⟩ := Option.map_eq_some_iff.mp hv
    obtain ⟨kx, e, _⟩ := paired_at hk hy
    exact ⟨kx, e, hk3 i y kx hy e⟩
  classical
  let kk : Value → List Int := fun v => if h : ∃ k, T1 s.heap v k then Classical.choose h else []
  have hkk : ∀ v kx, T1 s.heap v kx → kk v = kx := fun v kx ht => by
    have h : ∃ k, T1 s.heap v k := ⟨kx, ht⟩
    show (if h : ∃ k, T1 s.heap v k then Classical.choose h else []) = kx
    rw [dif_pos h]
    exact t1_fun (Classical.choose_spec h) ht
  refine call_function_meets (by rfl) (by rfl) F.entry_min (by rfl) (meets_min1 l (ys.map toValR) kk) ⟨by rw [List.length_map]; exact h0, by omega, I.ok.hd hc, p.isList, fun v hv => ?_, fun v h' tk hv hmin kp => ?_⟩
  · obtain ⟨i, hi⟩ := List.mem_iff_getElem?.mp hv
    obtain ⟨kx, e, t⟩ := hval i v hi
    rw [hkk v kx t]
    exact t
  · obtain ⟨i, hi⟩ := List.mem_iff_getElem?.mp hv
    obtain ⟨kx, e, t⟩ := hval i v hi
    have hi2 := hi
    rw [List.getElem?_map] at hi2
    obtain ⟨y, hy, ey⟩ := Option.map_eq_some_iff.mp hi2
    refine ⟨y, H, I.kept (t' := tk) kp, ?_, q i y kx hy e fun kz hz => ?_⟩
    · obtain ⟨_, _, a, rfl, _⟩ := paired_at hk hy
      exact ey.symm
    · obtain ⟨j, hj⟩ := List.mem_iff_getElem?.mp hz
      have hjl := (List.getElem?_eq_some_iff.mp hj).1
      have hyj : (ys.map toValR)[j]? = some ((ys.map toValR)[j]'(by rw [List.length_map]; omega)) := List.getElem?_eq_getElem _
      obtain ⟨kz', e', t'⟩ := hval j _ hyj
      rw [hj] at e'
      obtain rfl := Option.some.inj e'
      have := hmin _ (List.mem_of_getElem? hyj)
      rw [hkk _ _ t', hkk v kx t] at this
      exact this
end L2
set_option Elab.async false
set_option linter.all false
set_option maxRecDepth 100000
set_option maxHeartbeats 4000000
namespace K65S
open PySem PySem.Spec PyProof.Rows PySem.W
/-! ### the order of pairs (rank, number) -/
theorem lex_tot : ∀ xs ys : List Int, HT.lexLt xs ys = false → HT.lexLt ys xs = false → xs = ys
  | [], [], _, _ => rfl
  | [], y :: ys, h, _ => nomatch h
  | x :: xs, [], _, h => nomatch h
  | x :: xs, y :: ys, h1, h2 => by
    rw [HT.lexLt_cons] at h1 h2
    by_cases e : x = y
    · subst e
      rw [if_pos rfl] at h1 h2
      rw [lex_tot xs ys h1 h2]
    · rw [if_neg e] at h1
      rw [if_neg (Ne.symm e)] at h2
      have a := of_decide_eq_false h1
      have b := of_decide_eq_false h2
      omega
theorem lex_irr (xs : List Int) : HT.lexLt xs xs = false := by
  cases h : HT.lexLt xs xs with
  | false => rfl
  | true => exact absurd (h.symm.trans (NtL.lex_asym xs xs h)) (by decide)
theorem lex_trans {a b c : List Int} (h1 : HT.lexLt a b = true) (h2 : HT.lexLt b c = true) : HT.lexLt a c = true := by
  cases h : HT.lexLt a c with
  | true => rfl
  | false =>
    have := NtL.lex_tr c a b h (NtL.lex_asym _ _ h1)
    rw [h2] at this
    exact nomatch this
def ltK (p q : List Int × Int) : Bool := if p.1 = q.1 then decide (p.2 < q.2) else HT.lexLt p.1 q.1
theorem ltK_no {p q : List Int × Int} : ltK p q = false ↔ HT.lexLt q.1 p.1 = true ∨ (p.1 = q.1 ∧ q.2 ≤ p.2) := by
  unfold ltK
  by_cases e : p.1 = q.1
  · rw [if_pos e, decide_eq_false_iff_not]
    constructor
    · intro h
      exact .inr ⟨e, by omega⟩
    · rintro (h | h)
      · rw [e, lex_irr] at h
        exact nomatch h
      · omega
  · rw [if_neg e]
    constructor
    · intro h
      left
      cases h2 : HT.lexLt q.1 p.1 with
      | true => rfl
      | false => exact absurd (lex_tot _ _ h h2) e
    · rintro (h | h)
      · exact NtL.lex_asym _ _ h
      · exact absurd h.1 e
theorem ltK_yes {p q : List Int × Int} : ltK p q = true ↔ HT.lexLt p.1 q.1 = true ∨ (p.1 = q.1 ∧ p.2 < q.2) := by
  unfold ltK
  by_cases e : p.1 = q.1
  · rw [if_pos e, decide_eq_true_eq]
    constructor
    · exact fun h => .inr ⟨e, h⟩
    · rintro (h | h)
      · rw [e, lex_irr] at h
        exact nomatch h
      · exact h.2
  · rw [if_neg e]
    constructor
    · exact fun h => .inl h
    · rintro (h | h)
      · exact h
      · exact absurd h.1 e
theorem ltK_swo {α : Type} (k : α → List Int × Int) : SrtO.Swo fun v u => ltK (k v) (k u) := by
  refine ⟨fun x y h => ?_, fun x y z h1 h2 => ?_⟩
  · rw [ltK_no]
    rcases ltK_yes.mp h with h | h
    · exact .inl h
    · exact .inr ⟨h.1.symm, by omega⟩
  · rw [ltK_no] at h1 h2 ⊢
    rcases h1 with h1 | ⟨e1, h1⟩
    · rcases h2 with h2 | ⟨e2, h2⟩
      · exact .inl (lex_trans h1 h2)
      · rw [e2]
        exact .inl h1
    · rcases h2 with h2 | ⟨e2, h2⟩
      · rw [← e1]
        exact .inl h2
      · exact .inr ⟨e2.trans e1, by omega⟩
/-- a pair: a tuple of whole numbers, a number -/
def IsPI (h : Heap) (v : Value) (p : List Int × Int) : Prop := ∃ (a ka : Addr) (t : Tok) (items : Array Value), v = .ref a ∧ IsTup h a #[.ref ka, .int p.2 t] ∧ IsTup h ka items ∧ IntsAre items.toList p.1
theorem IsPI.keeps {h h' : Heap} {v : Value} {p : List Int × Int} (x : IsPI h v p) (k : ∀ b o, h.get? b = some o → o.cls = .type "tuple" → h'.get? b = some o) : IsPI h' v p := by
  obtain ⟨a, q, t, its, e, ⟨o, ho, hc, r⟩, ⟨o2, ho2, hc2, r2⟩, i⟩ := x
  exact ⟨a, q, t, its, e, ⟨o, k _ _ ho hc, hc, r⟩, ⟨o2, k _ _ ho2 hc2, hc2, r2⟩, i⟩
section
variable {prog : Program} {w : World} {A : Around} {E : Value → Shared → Prop} {s : Shared}
theorem key_of : ∀ {l : List Value} {ns : List Int}, IntsAre l ns → ItemsAre (L2.mixKind prog w) (ns.map fun i => (Sum.inl i : L2.Key)) l
  | _, _, .nil => .nil
  | _, _, .cons n t h => .cons (L2.mixKind_int prog w n t) (key_of h)
theorem inl_inj : ∀ {ns ms : List Int}, ns.map (fun i => (Sum.inl i : L2.Key)) = ms.map (fun i => (Sum.inl i : L2.Key)) → ns = ms
  | [], [], _ => rfl
  | [], _ :: _, h => nomatch h
  | _ :: _, [], h => nomatch h
  | n :: ns, m :: ms, h => by
    injection h with h1 h2
    injection h1 with h1
    rw [h1, inl_inj h2]
theorem firsts_pi {h : Heap} : ∀ vs : List Value, (∀ v ∈ vs, ∃ p, IsPI h v p) → ∃ fs : List Value, KatTups h vs fs ∧ fs.length = vs.length ∧ ∀ f ∈ fs, ∃ (q : Addr) (o : Obj), f = Value.ref q ∧ h.get? q = some o ∧ o.cls = .type "tuple"
  | [], _ => ⟨[], KatTups.nil, rfl, fun f hf => by simp at hf⟩
  | v :: vs, x => by
    obtain ⟨fs, k, hl, hi⟩ := firsts_pi vs fun u hu => x u (List.mem_cons_of_mem _ hu)
    obtain ⟨p, a, q, t, its, rfl, ⟨o, ho, hc, n, hd⟩, ⟨o2, ho2, hc2, _⟩, _⟩ := x v (List.mem_cons_self ..)
    refine ⟨.ref q :: fs, KatTups.cons ho hc hd rfl k, by rw [List.length_cons, List.length_cons, hl], fun f hf => ?_⟩
    rcases List.mem_cons.mp hf with rfl | hf
    · exact ⟨q, o2, rfl, ho2, hc2⟩
    · exact hi f hf
theorem cmp_pi {vs : List Value} {k : Value → List Int × Int} (hu : A.units < cLine) (hv : ∀ v ∈ vs, IsPI s.heap v (k v)) : SrtO.Cmp prog w A s (tuples' false) (fun p => p.1 ∈ vs) (SrtO.lt2 fun v u => ltK (k v) (k u)) := by
  intro p q hm hm'
  have h1 := hv _ hm
  have h2 := hv _ hm'
  show wpAny (model prog w) A (keyLt' (tuples' false) p.1 q.1) (fun r s' => s' = s ∧ r = ltK (k p.1) (k q.1)) (fun _ _ => False) s
  generalize k p.1 = kp at h1 ⊢
  generalize k q.1 = kq at h2 ⊢
  obtain ⟨x, y⟩ := kp
  obtain ⟨x', y'⟩ := kq
  obtain ⟨a, ka, t, its, e1, ⟨o, ho, hc, n, hd⟩, t2, i1⟩ := h1
  obtain ⟨a', kb, t', its', e2, ⟨o', ho', hc', n', hd'⟩, t2', i2⟩ := h2
  rw [e1, e2]
  refine kat_lt ho hd ho' hd' ?_
  show KatLex prog w A false (decide (2 < 2)) _ [(.ref ka, .ref kb), (.int y t, .int y' t')] 0 s
  have k1 : IsTupleKey (L2.mixKind prog w) s.heap (x.map fun i => (Sum.inl i : L2.Key)) ka := by
    obtain ⟨ok, hok, ck, nk, dk⟩ := t2
    exact ⟨ok, _, nk, hok, ck, dk, key_of i1⟩
  have k2 : IsTupleKey (L2.mixKind prog w) s.heap (x'.map fun i => (Sum.inl i : L2.Key)) kb := by
    obtain ⟨ok, hok, ck, nk, dk⟩ := t2'
    exact ⟨ok, _, nk, hok, ck, dk, key_of i2⟩
  refine kat_cons (wpAny_eqBool_tuple hu k1 k2 ?_)
  refine kat_go (fun e0 => ?_) (fun e0 => ?_)
  · have ex : x = x' := inl_inj (of_decide_eq_true e0)
    refine kat_yes (kat_cons (SeqAt.EqAt.int_int y t y' t' prog w _ _ ?_))
    refine kat_go (fun e3 => ?_) (fun e3 => ?_)
    · have ey : y = y' := by simpa using e3
      refine kat_yes (kat_nil ⟨rfl, ?_⟩)
      show _ = ltK (x, y) (x', y')
      unfold ltK
      rw [if_pos ex, ey]
      exact (decide_eq_false (Int.lt_irrefl _)).symm
    · refine kat_no (kat_one _ _ (PyProof.Rows.lt_int ?_))
      refine (show s = s ∧ decide (y < y') = ltK (x, y) (x', y') from ⟨rfl, ?_⟩)
      unfold ltK
      rw [if_pos ex]
  · have ex : ¬ x = x' := fun z => of_decide_eq_false e0 (by rw [z])
    refine kat_no ?_
    show wpAny _ _ (oneLt' false _ _) _ _ _
    refine kat_one _ _ (HT.lt_tupInts t2 t2' i1 i2 hu ?_)
    refine (show s = s ∧ HT.lexLt x x' = ltK (x, y) (x', y') from ⟨rfl, ?_⟩)
    unfold ltK
    rw [if_neg ex]
theorem sortable_pi {a : Addr} {vs : List Value} {k : Value → List Int × Int} (hu : A.units < cLine) (h0 : 0 < vs.length) (hp : ∀ v ∈ vs, IsPI s.heap v (k v)) (ha : ∀ o, s.heap.get? a = some o → o.cls ≠ .type "tuple") : SrtO.SortableO prog w A s a vs fun v u => ltK (k v) (k u) := by
  intro h' keep
  have hp' : ∀ v ∈ vs, IsPI h' v (k v) := fun v hm => (hp v hm).keeps fun b o e c => keep b o (fun z => by subst z; exact ha o e c) e
  obtain ⟨fs, h1, h2, h3⟩ := firsts_pi vs fun v hm => ⟨_, hp' v hm⟩
  refine ⟨tuples' false, fun Q E hq => ?_, cmp_pi (s := { s with heap := h' }) hu hp'⟩
  refine kat_kind (s := { s with heap := h' }) (T := .type "tuple") h1 (by omega) (fun f hm => ?_) (by rfl) ?_
  · obtain ⟨q, o, rfl, ho, hc⟩ := h3 f hm
    have z : PySem.W.Looks (model prog w) h' (typeOf (.ref q)) o.cls := (PySem.W.Looks.ld ho).andThen .now
    rw [hc] at z
    exact z
  · have e : (Value.type "tuple" != Value.type "tuple") = false := by first | decide +kernel | rfl | decide
    rw [e]
    exact hq
end
end K65S
namespace L2
open PySem PySem.Spec PyProof.Rows K65S
/-- sorted(xs), xs pairs of a tuple of whole numbers and a number -/
def rSortedPI (K : PySem.W.Frag) : List V → Hp → VK → Prop := fun vs H Q => ∃ (a : Addr) (xs : List V) (k : V → List Int × Int), vs = [V.ref a] ∧ SqL K H a xs ∧ (∀ x ∈ xs, ∃ t r, x = V.ref t ∧ H t = some (.tup [.ref r, .int (k x).2]) ∧ SqT K H r ((k x).1.map V.int)) ∧
  ∀ ys p, SrtO.Srtd (fun x y => ltK (k x) (k y)) ys → ys.Perm xs → H p = none → Q (.ref p) (upd H p (.lst ys))
section
variable {X : Cx}
theorem cr_sortedPI (hu : X.A.units + 64 < cLine) : CallR X (.builtin "sorted") (rSortedPI X.K) := by
  intro pins s σ H vs us Q I r h
  obtain ⟨a, xs, k, rfl, hs, hx, q⟩ := h
  obtain ⟨its, rv, hl, hz⟩ := I.list hs
  obtain ⟨u, rfl, ru⟩ := vals1 r
  obtain rfl : u = Value.ref a := ru
  obtain ⟨e1, e2⟩ := refs_back rv fun x m => by
    obtain ⟨t, _, e, _⟩ := hx x m
    exact ⟨t, e⟩
  have hp : ∀ v ∈ its, IsPI s.heap v (k (backV v)) := fun v hv => by
    obtain ⟨t, rfl⟩ := e2 v hv
    have hm : V.ref t ∈ xs := by rw [e1]; exact List.mem_map.mpr ⟨_, hv, rfl⟩
    obtain ⟨t', r, e, ht, hr⟩ := hx _ hm
    cases e
    obtain ⟨_, its2, r2, o, ho, hc, n, hd⟩ := I.hok _ _ ht
    obtain ⟨u1, u2, rfl, ri, rj⟩ := vals2 r2
    cases ri
    obtain ⟨t2, rfl⟩ := rj
    obtain ⟨its3, r3, p3, _⟩ := I.tuple hr
    exact ⟨t, r, t2, its3.toArray, rfl, ⟨o, ho, hc, n, hd⟩, p3, intsAre_of r3⟩
  refine SrtO.sorted_ord (ltK_swo fun u => k (backV u)) hl.isList (by rw [← rv.length]; exact hz) (fun h2 h₁ b ho kk => ?_) fun out h1 h2 => ?_
  · refine sortable_pi (s := { s with heap := h₁ }) (show X.A.units + 1 + 1 < cLine by omega) (by omega) (fun v hm => (hp v hm).keeps fun c o e _ => (kk c o e).2) fun o e => ?_
    have e' : some o = some (seqObj "list" its.toArray 0) := e.symm.trans ho
    cases e'
    intro c
    exact absurd (Value.type.inj c) (by decide)
  · have h3 : ∀ u ∈ out, ∃ a, u = Value.ref a := fun u hu => e2 u (h2.perm.mem_iff.mp hu)
    obtain ⟨n, hn⟩ := sortedAll_at s.heap its out.toArray
    have hb : (out.map backV).Perm xs := by
      rw [e1]
      exact h2.perm.map backV
    refine ⟨.ref (s.heap.objs.size + 1), upd H (s.heap.objs.size + 1) (.lst (out.map backV)), I.laid (t' := s.toks) (fun b o e => sortedAll_old e) (Nat.le_succ _) ⟨?_, out, n, vals_back h3, hn⟩, rfl, q _ _ (SrtO.srtd_map (lt := fun x y => ltK (k x) (k y)) h1) hb (I.hok.fresh (Nat.le_succ _))⟩
    rw [hb.length_eq]
    exact hz
end
end L2
set_option Elab.async false
set_option linter.all false
set_option maxRecDepth 100000
set_option maxHeartbeats 8000000
namespace K65
open PySem PySem.Spec PyProof.Rows L2 Dt
/-! ### bags: mathematics -/
abbrev Tr := List Int × Int × Int
abbrev ltC (p q : List Int × Int) : Bool := K65S.ltK p q
def ky (e : Tr) : List Int × Int := (e.1, e.2.1)
def en (e : Tr) : En := (e.1, e.2.2)
theorem lex_tot0 : ∀ xs ys : List Int, HT.lexLt xs ys = false → HT.lexLt ys xs = false → xs = ys := PySem.lex_tot1
theorem ltC_as {a b : List Int × Int} (h : ltC a b = true) : ltC b a = false := by
  rcases K65S.ltK_yes.mp h with h | ⟨h1, h2⟩
  · exact K65S.ltK_no.mpr (.inl h)
  · exact K65S.ltK_no.mpr (.inr ⟨h1.symm, by omega⟩)
theorem ltC_tr {a b c : List Int × Int} (h1 : ltC a b = false) (h2 : ltC b c = false) : ltC a c = false := by
  rw [K65S.ltK_no] at h1 h2 ⊢
  rcases h1 with h1 | ⟨e1, h1⟩
  · rcases h2 with h2 | ⟨e2, h2⟩
    · exact .inl (K65S.lex_trans h2 h1)
    · rw [← e2]
      exact .inl h1
  · rcases h2 with h2 | ⟨e2, h2⟩
    · rw [e1]
      exact .inl h2
    · exact .inr ⟨e1.trans e2, by omega⟩
theorem ins_sort {now : Int} {r : List Int} {it : Int} : ∀ {s : List Tr}, s.Pairwise (fun x y => ltC (ky x) (ky y) = true) → (∀ e ∈ s, e.2.1 < now) →
    ∃ s' : List Tr, s'.Perm ((r, now, it) :: s) ∧ s'.Pairwise (fun x y => ltC (ky x) (ky y) = true) ∧ s'.map en = insE (s.map en) (r, it)
  | [], _, _ => ⟨[(r, now, it)], List.Perm.refl _, List.pairwise_singleton .., rfl⟩
  | y :: s, hp, hl => by
    obtain ⟨p1, p2⟩ := List.pairwise_cons.mp hp
    obtain ⟨s', h1, h2, h3⟩ := ins_sort (r := r) (it := it) p2 fun e he => hl e (List.mem_cons_of_mem _ he)
    cases hc : HT.lexLt r y.1 with
    | true =>
      refine ⟨(r, now, it) :: y :: s, List.Perm.refl _, List.pairwise_cons.mpr ⟨fun z hz => ?_, hp⟩, ?_⟩
      · have hry : ltC (r, now) (ky y) = true := by
          unfold ltC K65S.ltK
          have ne : ¬ r = (ky y).1 := fun e => by
            have e2 : r = y.1 := e
            rw [e2, lex_refl0] at hc
            exact nomatch hc
          rw [if_neg ne]
          exact hc
        rcases List.mem_cons.mp hz with rfl | hz
        · exact hry
        · cases h : ltC (r, now) (ky z) with
          | true => exact h
          | false =>
            have a1 := ltC_as (p1 z hz)
            have a2 := ltC_tr h a1
            rw [show ltC (r, now) (ky y) = true from hry] at a2
            exact nomatch a2
      · show en (r, now, it) :: (en y :: s.map en) = List.takeWhile (fun x => !HT.lexLt r x.1) (en y :: s.map en) ++ (r, it) :: List.dropWhile (fun x => !HT.lexLt r x.1) (en y :: s.map en)
        rw [List.takeWhile_cons, List.dropWhile_cons, if_neg (by show ¬ (!HT.lexLt r y.1) = true; rw [hc]; decide), if_neg (by show ¬ (!HT.lexLt r y.1) = true; rw [hc]; decide)]
        rfl
    | false =>
      refine ⟨y :: s', (List.Perm.cons y h1).trans (List.Perm.swap ..), List.pairwise_cons.mpr ⟨fun z hz => ?_, h2⟩, ?_⟩
      · rcases List.mem_cons.mp (h1.mem_iff.mp hz) with rfl | hz
        · show ltC (y.1, y.2.1) (r, now) = true
          unfold ltC K65S.ltK
          by_cases e : y.1 = r
          · rw [if_pos e]
            exact decide_eq_true (hl y (List.mem_cons_self ..))
          · rw [if_neg e]
            cases h : HT.lexLt y.1 r with
            | true => rfl
            | false => exact absurd (lex_tot0 _ _ h hc) e
        · exact p1 z hz
      · unfold insE at h3 ⊢
        rw [List.map_cons, List.map_cons, List.takeWhile_cons, List.dropWhile_cons, if_pos (by show (!HT.lexLt r y.1) = true; rw [hc]; rfl), if_pos (by show (!HT.lexLt r y.1) = true; rw [hc]; rfl), h3]
        rfl
def lineB (b : List En) : List En := b.foldl insE []
theorem lineB_put (b : List En) (e : En) : lineB (b ++ [e]) = insE (lineB b) e := by
  unfold lineB
  rw [List.foldl_append]
  rfl
theorem foldl_perm : ∀ (b l : List En), (b.foldl insE l).Perm (l ++ b)
  | [], l => by rw [List.append_nil]; exact List.Perm.refl _
  | e :: b, l => by
    refine (foldl_perm b (insE l e)).trans ?_
    refine ((insE_perm l e).append_right b).trans ?_
    exact List.perm_middle.symm
theorem lineB_perm (b : List En) : (lineB b).Perm b := foldl_perm b []
theorem lineB_len (b : List En) : (lineB b).length = b.length := (lineB_perm b).length_eq
theorem insE_front {l : List En} {e : En} (h : ∀ x ∈ l, HT.lexLt e.1 x.1 = true) : insE l e = e :: l := by
  unfold insE
  cases l with
  | nil => rfl
  | cons y l =>
    have hy := h y (List.mem_cons_self ..)
    rw [List.takeWhile_cons, List.dropWhile_cons, if_neg (by rw [hy]; decide), if_neg (by rw [hy]; decide)]
    rfl
theorem insE_behind {l : List En} {e x : En} (h : HT.lexLt x.1 e.1 = false) : insE (e :: l) x = e :: insE l x := by
  unfold insE
  rw [List.takeWhile_cons, List.dropWhile_cons, if_pos (by rw [h]; rfl), if_pos (by rw [h]; rfl)]
  rfl
structure FirstMin (b : List En) (j : Nat) (e : En) : Prop where
  at_ : b[j]? = some e
  mn : ∀ x ∈ b, HT.lexLt x.1 e.1 = false
  fs : ∀ (m : Nat) x, m < j → b[m]? = some x → x.1 ≠ e.1
theorem lineB_pop : ∀ (n : Nat) (b : List En) (j : Nat) (e : En), b.length = n → FirstMin b j e → lineB b = e :: lineB (b.eraseIdx j)
  | 0, b, j, e, hl, h => by
    rw [List.eq_nil_of_length_eq_zero hl] at h
    exact nomatch h.at_
  | n + 1, b, j, e, hl, h => by
    have hb : b ≠ [] := fun z => by rw [z] at hl; exact nomatch hl
    obtain ⟨b', x, rfl⟩ : ∃ b' x, b = b' ++ [x] := ⟨b.dropLast, b.getLast hb, (List.dropLast_concat_getLast hb).symm⟩
    rw [List.length_append, List.length_singleton] at hl
    have hjl := (List.getElem?_eq_some_iff.mp h.at_).1
    rw [List.length_append, List.length_singleton] at hjl
    by_cases c : j < b'.length
    · have h1 := h.at_
      rw [List.getElem?_append_left c] at h1
      have ih := lineB_pop n b' j e (by omega) ⟨h1, fun y hy => h.mn y (List.mem_append_left _ hy), fun m y hm hy => h.fs m y hm (by rw [List.getElem?_append_left (by omega)]; exact hy)⟩
      rw [lineB_put, ih, insE_behind (h.mn x (List.mem_append_right _ (List.mem_singleton.mpr rfl))), List.eraseIdx_append_of_lt_length c, lineB_put]
    · obtain rfl : j = b'.length := by omega
      have h1 := h.at_
      rw [List.getElem?_append_right (Nat.le_refl _), Nat.sub_self] at h1
      obtain rfl : x = e := Option.some.inj h1
      rw [lineB_put, List.eraseIdx_append_of_length_le (Nat.le_refl _), Nat.sub_self]
      show insE (lineB b') x = x :: lineB (b' ++ [])
      rw [List.append_nil]
      refine insE_front fun y hy => ?_
      have hy' := (lineB_perm b').mem_iff.mp hy
      obtain ⟨m, hm⟩ := List.mem_iff_getElem?.mp hy'
      have hml := (List.getElem?_eq_some_iff.mp hm).1
      have h2 := h.mn y (List.mem_append_left _ hy')
      have h3 := h.fs m y hml (by rw [List.getElem?_append_left hml]; exact hm)
      cases h4 : HT.lexLt x.1 y.1 with
      | true => rfl
      | false => exact absurd (lex_tot0 _ _ h2 h4) h3
/-- there is a first least one -/
theorem first_min : ∀ (n : Nat) (b : List En), b.length = n → b ≠ [] → ∃ j e, FirstMin b j e
  | 0, b, hl, h => absurd (List.eq_nil_of_length_eq_zero hl) h
  | n + 1, b, hl, hb => by
    obtain ⟨b', x, rfl⟩ : ∃ b' x, b = b' ++ [x] := ⟨b.dropLast, b.getLast hb, (List.dropLast_concat_getLast hb).symm⟩
    rw [List.length_append, List.length_singleton] at hl
    by_cases hb' : b' = []
    · subst hb'
      exact ⟨0, x, rfl, (fun y hy => by rw [List.mem_singleton.mp hy]; exact PySem.lex_irr1 _), fun m y hm => absurd hm (Nat.not_lt_zero _)⟩
    obtain ⟨j, e, h⟩ := first_min n b' (by omega) hb'
    have hjl := (List.getElem?_eq_some_iff.mp h.at_).1
    cases c : HT.lexLt x.1 e.1 with
    | false =>
      refine ⟨j, e, by rw [List.getElem?_append_left hjl]; exact h.at_, fun y hy => ?_, fun m y hm hy => h.fs m y hm (by rw [List.getElem?_append_left (by omega)] at hy; exact hy)⟩
      rcases List.mem_append.mp hy with hy | hy
      · exact h.mn y hy
      · rw [List.mem_singleton.mp hy]
        exact c
    | true =>
      refine ⟨b'.length, x, by rw [List.getElem?_append_right (Nat.le_refl _), Nat.sub_self]; rfl, fun y hy => ?_, fun m y hm hy => ?_⟩
      · rcases List.mem_append.mp hy with hy | hy
        · exact PySem.lex_tr1 (h.mn y hy) (NtL.lex_asym _ _ c)
        · rw [List.mem_singleton.mp hy]
          exact PySem.lex_irr1 _
      · rw [List.getElem?_append_left hm] at hy
        intro z
        have := h.mn y (List.mem_of_getElem? hy)
        rw [z, c] at this
        exact nomatch this
/-! a line by sorted places -/
def tg (b : List En) : List Tr := b.zipIdx.map fun x => (x.1.1, ((x.2 : Nat) : Int), x.1.2)
theorem tg_put (b : List En) (e : En) : tg (b ++ [e]) = tg b ++ [(e.1, ((b.length : Nat) : Int), e.2)] := by
  unfold tg
  rw [List.zipIdx_append, List.map_append, Nat.zero_add]
  rfl
theorem tg_at {b : List En} {x : Tr} (h : x ∈ tg b) : ∃ (k : Nat) (e : En), b[k]? = some e ∧ x = (e.1, ((k : Nat) : Int), e.2) := by
  obtain ⟨y, hy, rfl⟩ := List.mem_map.mp h
  have := List.mem_zipIdx_iff_getElem?.mp hy
  exact ⟨y.2, y.1, this, rfl⟩
theorem tg_sort : ∀ (n : Nat) (b : List En), b.length = n → ∃ s : List Tr, s.Perm (tg b) ∧ s.Pairwise (fun x y => ltC (ky x) (ky y) = true) ∧ s.map en = lineB b
  | 0, b, hl => by
    rw [List.eq_nil_of_length_eq_zero hl]
    exact ⟨[], List.Perm.refl _, .nil, rfl⟩
  | n + 1, b, hl => by
    have hb : b ≠ [] := fun z => by rw [z] at hl; exact nomatch hl
    obtain ⟨b', x, rfl⟩ : ∃ b' x, b = b' ++ [x] := ⟨b.dropLast, b.getLast hb, (List.dropLast_concat_getLast hb).symm⟩
    rw [List.length_append, List.length_singleton] at hl
    obtain ⟨s, h1, h2, h3⟩ := tg_sort n b' (by omega)
    obtain ⟨s', g1, g2, g3⟩ := ins_sort (now := ((b'.length : Nat) : Int)) (r := x.1) (it := x.2) h2 fun e he => by
      obtain ⟨k, z, e1, rfl⟩ := tg_at (h1.mem_iff.mp he)
      have := (List.getElem?_eq_some_iff.mp e1).1
      show ((k : Nat) : Int) < (b'.length : Nat)
      omega
    refine ⟨s', ?_, g2, ?_⟩
    · rw [tg_put]
      exact g1.trans ((List.Perm.cons _ h1).trans (List.perm_append_singleton _ _).symm)
    · rw [g3, h3, lineB_put]
theorem tg_line {b : List En} {es : List Tr} (hp : es.Perm (tg b)) (hs : es.Pairwise fun x y => ltC (ky y) (ky x) = false) : es.map en = lineB b := by
  obtain ⟨s, h1, h2, h3⟩ := tg_sort _ b rfl
  have : es = s := List.Perm.eq_of_pairwise (le := fun x y => ltC (ky y) (ky x) = false) (fun x y hx hy g1 g2 => by
    obtain ⟨k, e, e1, rfl⟩ := tg_at (hp.mem_iff.mp hx)
    obtain ⟨k', e', e1', rfl⟩ := tg_at (h1.mem_iff.mp hy)
    rw [K65S.ltK_no] at g1 g2
    have hk : k = k' := by
      rcases g1 with g1 | ⟨q1, g1⟩
      · rcases g2 with g2 | ⟨q2, g2⟩
        · have := NtL.lex_asym _ _ g1
          rw [g2] at this
          exact nomatch this
        · rw [q2, PySem.lex_irr1] at g1
          exact nomatch g1
      · rcases g2 with g2 | ⟨q2, g2⟩
        · rw [q1, PySem.lex_irr1] at g2
          exact nomatch g2
        · have a1 : ((k : Nat) : Int) ≤ (k' : Nat) := g1
          have a2 : ((k' : Nat) : Int) ≤ (k : Nat) := g2
          omega
    subst hk
    rw [e1] at e1'
    rw [Option.some.inj e1']) hs (h2.imp fun h => ltC_as h) (hp.trans h1.symm)
  rw [this, h3]
/-! bags and lines -/
def Rel (T : Dt) (B : Bgs) (L : Lns) : Prop := ∀ q ∈ ad T, L q = lineB (B q)
def pshB (p : Ad) (rs : List (List Int)) (n : Int) (B : Bgs) : Bgs := fun q => if q <+: p then B q ++ [(rs.getD q.length [], itm p n q.length)] else B q
theorem Rel.psh {T : Dt} {B : Bgs} {L : Lns} (h : Rel T B L) (p : Ad) (rs : List (List Int)) (n : Int) : Rel T (pshB p rs n B) (pshL p rs n L) := fun q hq => by
  unfold pshB pshL
  by_cases c : q <+: p
  · rw [if_pos c, if_pos c, lineB_put, h q hq]
  · rw [if_neg c, if_neg c]
    exact h q hq
/-- the pushes from the queue up -/
def pshU (p : Ad) (rs : List (List Int)) (n : Int) (B : Bgs) (k : Nat) : Bgs := fun q => if q <+: p ∧ p.length < q.length + k then B q ++ [(rs.getD q.length [], itm p n q.length)] else B q
theorem pshU_zero (p : Ad) (rs : List (List Int)) (n : Int) (B : Bgs) : pshU p rs n B 0 = B := by
  funext q
  unfold pshU
  rw [if_neg fun z => by have := z.1.length_le; omega]
theorem pshU_full (p : Ad) (rs : List (List Int)) (n : Int) (B : Bgs) : pshU p rs n B (p.length + 1) = pshB p rs n B := by
  funext q
  unfold pshU pshB
  by_cases c : q <+: p
  · rw [if_pos ⟨c, by omega⟩, if_pos c]
  · rw [if_neg fun z => c z.1, if_neg c]
theorem pshU_at (p : Ad) (rs : List (List Int)) (n : Int) (B : Bgs) (k : Nat) (hk : k ≤ p.length) : pshU p rs n B k (p.take (p.length - k)) = B (p.take (p.length - k)) := by
  unfold pshU
  have hl : (p.take (p.length - k)).length = p.length - k := by rw [List.length_take]; omega
  rw [if_neg fun z => by omega]
theorem pshU_succ (p : Ad) (rs : List (List Int)) (n : Int) (B : Bgs) (k : Nat) (hk : k ≤ p.length) : pshU p rs n B (k + 1) = fun q => if q = p.take (p.length - k) then B (p.take (p.length - k)) ++ [(rs.getD (p.length - k) [], itm p n (p.length - k))] else pshU p rs n B k q := by
  funext q
  have hl : (p.take (p.length - k)).length = p.length - k := by rw [List.length_take]; omega
  by_cases e : q = p.take (p.length - k)
  · rw [if_pos e, e]
    unfold pshU
    rw [if_pos ⟨List.take_prefix .., by omega⟩, hl]
  · rw [if_neg e]
    unfold pshU
    by_cases h : q <+: p ∧ p.length < q.length + k
    · rw [if_pos h, if_pos ⟨h.1, by omega⟩]
    · rw [if_neg h, if_neg fun z => ?_]
      have hq : q.length = p.length - k := by
        have := z.1.length_le
        have := z.2
        by_cases c : p.length < q.length + k
        · exact absurd ⟨z.1, c⟩ h
        · omega
      exact e (by rw [← hq]; exact (List.prefix_iff_eq_take.mp z.1))
theorem pshU_le (p : Ad) (rs : List (List Int)) (n : Int) (B : Bgs) (k : Nat) (q : Ad) : (pshU p rs n B k q).length ≤ (B q).length + 1 := by
  unfold pshU
  split
  · rw [List.length_append]
    exact Nat.le_refl _
  · omega
theorem whI_take {p : Ad} {k : Nat} (h : k < p.length) (n : Int) : whI (p.take (k + 1)) = itm p n k := by
  unfold whI itm
  rw [List.take_succ_eq_append_getElem h, List.getLast?_concat, List.getElem?_eq_getElem h]
theorem upI_take {T : Dt} {p : Ad} {k : Nat} (h : k < p.length) : upI T (p.take (k + 1)) = (T.idx (p.take k) : Nat) := by
  rw [List.take_succ_eq_append_getElem h, upI_snoc]
theorem con0 (t : Dt) : Con t (fun _ => []) := ⟨(fun q w _ _ e h => nomatch h), fun q w j _ _ => rfl⟩
theorem seat0 (t : Dt) : Seat t (fun _ => []) [] := ⟨(fun n i p _ h => nomatch h), (fun k v h => nomatch h), fun p _ => List.Pairwise.nil⟩
theorem dps_erase {K : PySem.W.Frag} {H : Hp} : ∀ {xs : List V} {ds : List PyData} (j : Nat), DpAll K H xs ds → DpAll K H (xs.eraseIdx j) (ds.eraseIdx j)
  | _, _, _, .nil => .nil
  | _, _, 0, .cons _ t => t
  | _, _, j + 1, .cons h t => .cons h (dps_erase j t)
theorem map_erase {α β : Type} (f : α → β) : ∀ (l : List α) (j : Nat), (l.map f).eraseIdx j = (l.eraseIdx j).map f
  | [], _ => rfl
  | a :: l, 0 => rfl
  | a :: l, j + 1 => congrArg (f a :: ·) (map_erase f l j)
theorem len_idx : ∀ (T : Dt) (q : Ad) (u : Dt), sub T q = some u → q.length ≤ T.idx q
  | _, [], _, _ => Nat.zero_le _
  | .x, j :: p, _, h => by rw [sub_x] at h; exact nomatch h
  | .o, j :: p, _, h => by rw [sub_o] at h; exact nomatch h
  | .c k r, 0 :: p, u, h => by
    rw [sub_c0] at h
    rw [idx_c0]
    have := len_idx k p u h
    show p.length + 1 ≤ _
    omega
  | .c k r, (j + 1) :: p, u, h => by
    rw [sub_cs] at h
    rw [idx_cs]
    have := len_idx r (j :: p) u h
    have : p.length + 1 ≤ r.idx (j :: p) := this
    show p.length + 1 ≤ _
    omega
end K65
set_option Elab.async false
set_option linter.all false
set_option maxRecDepth 100000
set_option maxHeartbeats 8000000
namespace K65
open PySem PySem.Spec PyProof.Rows L2 Dt
/-! ### _law_play -/
section
variable {K : PySem.W.Frag} {S : List Addr} {H H' : Hp} {sp : Addr} {T : Dt} {RB : List (Addr × Addr)} {B B' : Bgs}
theorem SpE.put (s : SpE K S H sp T RB B) {q : Ad} {b : Addr} {xs : List V} {es : List En} (hq : q ∈ ad T) (hl : (RB.map Prod.snd)[T.idx q]? = some b) (hx : DpAll K (offS S H) xs (es.map enD)) : SpE K S (upd H b (.lst xs)) sp T RB (fun r => if r = q then es else B r) :=
  ⟨s.rw.same (GoD.refl.upd (s.bg.sub _ (List.mem_of_getElem? hl))), s.bg.setB hq hl hx⟩
theorem SpE.eqB (s : SpE K S H sp T RB B) (h : ∀ q, B q = B' q) : SpE K S H sp T RB B' := by
  have : B = B' := funext h
  rw [← this]
  exact s
end
def goneT (T : Dt) : Evt × Gone → List PyData
  | (.dep, none) => [.tuple [.none, .int (-1)]]
  | (.dep, some (n, i, _)) => [.tuple [.int n, .int (T.idx ((lv T).getD i []) : Nat)]]
  | (.psh .., _) => []
def gonesT (T : Dt) (ps : List (Evt × Gone)) : List PyData := ps.flatMap (goneT T)
theorem gonesT_len (T : Dt) : ∀ ps : List (Evt × Gone), (gonesT T ps).length ≤ ps.length
  | [] => Nat.le_refl _
  | (.dep, none) :: ps => Nat.succ_le_succ (gonesT_len T ps)
  | (.dep, some (_, _, _)) :: ps => Nat.succ_le_succ (gonesT_len T ps)
  | (.psh .., _) :: ps => Nat.le_succ_of_le (gonesT_len T ps)
def tLf2 (K : PySem.W.Frag) : TT := fun σ H Q => ∃ (sp : Addr) (xs : List V) (i : Nat) (r : Addr) (kvs : List (Key × V)) (fv : V) (w : Dt), σ[0]? = some (some (.ref sp)) ∧ σ[3]? = some (some (.int (0 + (i : Int)))) ∧ H sp = some (.lst xs) ∧ xs[i]? = some (.ref r) ∧ H r = some (.dK kvs) ∧ valV kvs (Sum.inr ("figure" : Str)) = some fv ∧ ShV K H fv w ∧ w.ht < 20 ∧ ∀ H', Same H H' → Q (w.len == 0) H'
def spPlayB (K : PySem.W.Frag) : Sp := fun vs H Q _ => ∃ (sp a : Addr) (S : List Addr) (T : Dt) (RB : List (Addr × Addr)) (es : List Evt), vs = [.ref sp, .ref a] ∧ SpE K S H sp T RB (fun _ => []) ∧ Dp K (offS S H) (.ref a) (.tuple (es.map evD)) ∧ StoryOK T es ∧ es.length ≤ 70 ∧ T.ht < 20 ∧ T.nodes ≤ 100 ∧
  ∀ H' g gs ps L' B', GoS (RB.map Prod.snd) H H' → SpE K S H' sp T RB B' → ps.map (·.1) = es → Run T (fun _ => []) ps L' → Rel T B' L' → (∀ q, (B' q).length ≤ 70) → H g = none → H' g = some (.lst gs) → DpAll K (offS S H') gs (gonesT T ps) → Q (.ref g) H'
section
variable {P : Program} {w : World} {K : PySem.W.Frag} {mg : Str → Option Value} {base : Heap}
theorem ok_playB (D : DefAt K mg "_law_play" s_law_play ["spots", "story"]) (T0 : Txt K mg) (mmax : mg "max" = none) : CalX P w K mg base CX0 1 "_law_play" ["spots", "story"] (spPlayB K) := by
  refine D.ok sc_law_play (fun vs H Q E h => ?_) (fun f cdv A outer s H vs Q E hr h => ?_)
  · obtain ⟨sp, a, S, T, RB, es, rfl, _⟩ := h
    rfl
  obtain ⟨sp, a, S, T, RB, es, rfl, hE, hA, hst, hel, hht, hno, q⟩ := h
  have hu := hu_of hr
  refine ⟨_, (pss_cons (ps_set (i := 2) sc_law_play.nd rfl (.inl rfl) (pe_lst pa_nil)) 
    (pss_cons (ps_setLc (i := 4) (own := [("k", 3)]) (g := gName 3) (by rfl) sc_law_play.nd rfl (by rfl) (sw_true rfl rfl rfl (by decide +kernel)) (pi_range1 (by rfl) T0.range (pa_cons (pe_callB call_len_seq (by rfl) T0.len PySem.boot_len (pa_cons (pv 0) pa_nil)) pa_nil)) (blkOk_by (own := [("k", 3)]) (N := N_law_play) (sc := defScope s_law_play) (by decide +kernel)) (fun _ _ _ _ _ => pg_name (i := 3) sc_law_play.nd rfl (Or.inl rfl)) (fun _ _ _ _ _ => by exact (pts_one (pt_conv (t' := tLf2 K) (pt_cmpR (op_eqDK (K := K) (by exact rfl) (un65 hr)) (pe_dget hu (pe_ix (show IxR _ (rIxL K) from ix_list) (pv 0) (pv 3) (fun _ _ => rfl)) pe_str (fun _ _ => rfl)) (pe_tup pa_nil) (nomark _)) (by
          rintro σ H Q ⟨sp, xs, i, r, kvs, fv, w, h0, h3, hsp, hx, hr, hv, hs, hh, k⟩
          refine ⟨_, h0, _, h3, sp, xs, _, _, rfl, rfl, SqL.of hsp, (by rw [Int.zero_add]; exact atI_nat hx), r, fv, rfl, (hv ▸ DGet.k (k := Sum.inr ("figure" : Str)) hr), (by show 0 ≤ sizeLine; decide), fun e he => ?_⟩
          have s1 := same_new (o := .tup []) he
          have hw : Dp K (upd H e (.tup [])) fv (dD w) := dp_same s1 (shv_dp hs)
          refine ⟨dD w, .tuple [], hw, .tup (SqT.of upd_same) .nil, (shp_dD 20 w hh).ok (by decide), (shp_tup (n := 1) (ds := []) fun e he => by cases he).ok (by decide), _, rfl, ?_⟩
          rw [eqv_leaf]
          exact k _ s1)))) (fun _ _ _ _ _ => by exact (pv 3))) 
    (pss_cons (ps_for PassesOwn.never rfl (pi_tup (pv 1)) (pg_name (i := 5) sc_law_play.nd rfl (Or.inl rfl)) 
      (pss_cons (ps_set (i := 6) sc_law_play.nd rfl (.inl rfl) pe_int) 
      (pss_cons (ps_if (pt_cmpR op_eq (pe_ix ix_tup (pv 5) pe_int (fun _ _ => rfl)) pe_str (nomark _)) 
        (pss_cons (ps_set (i := 6) sc_law_play.nd rfl (.inl rfl) (pe_ix ix_list (pv 4) (pe_ix ix_tup (pv 5) pe_int (fun _ _ => rfl)) (fun _ _ => rfl))) 
        (pss_cons (ps_set (i := 7) sc_law_play.nd rfl (.inl rfl) (pe_ix ix_tup (pv 5) pe_int (fun _ _ => rfl))) 
        (pss_one (ps_for PassesOwn.never rfl (pi_range1 (by rfl) T0.range (pa_cons (pe_callB call_len_seq (by rfl) T0.len PySem.boot_len (pa_cons (pe_ix ix_tup (pv 5) pe_int (fun _ _ => rfl)) pa_nil)) pa_nil)) (pg_name (i := 3) sc_law_play.nd rfl (Or.inl rfl)) 
          (pss_cons (ps_expr (pe_bm PySem.F.plainAttrs_list PySem.F.slot_list_append PySem.F.type_list_append mt_append (pe_dget hu (pe_ix ix_list (pv 0) (pv 6) (fun _ _ => rfl)) pe_str (fun _ _ => rfl)) (pa_cons (pe_tup (pa_cons (pe_ix ix_tup (pe_ix ix_tup (pv 5) pe_int (fun _ _ => rfl)) (pe_op op_sub (pe_op op_sub (pe_callB call_len_seq (by rfl) T0.len PySem.boot_len (pa_cons (pe_ix ix_tup (pv 5) pe_int (fun _ _ => rfl)) pa_nil)) pe_int) (pv 3)) (fun _ _ => rfl)) (pa_cons (pv 7) pa_nil))) pa_nil))) 
          (pss_cons (ps_set (i := 7) sc_law_play.nd rfl (.inl rfl) (pe_dget hu (pe_ix ix_list (pv 0) (pv 6) (fun _ _ => rfl)) pe_str (fun _ _ => rfl))) 
          (pss_one (ps_set (i := 6) sc_law_play.nd rfl (.inl rfl) (pe_callB (call_max2 rfl) (by rfl) mmax (by decide +kernel) (pa_cons pe_int (pa_cons (pe_dget hu (pe_ix ix_list (pv 0) (pv 6) (fun _ _ => rfl)) pe_str (fun _ _ => rfl)) pa_nil))))))))))) pss_nil) 
      (pss_one (ps_if (PW.pt (pw_and (pt_cmpR op_eq (pe_ix ix_tup (pv 5) pe_int (fun _ _ => rfl)) pe_str (nomark _)) (pw_and1 (pt_cmpR (op_eqD hr.units) (pe_dget hu (pe_ix ix_list (pv 0) pe_int (fun _ _ => rfl)) pe_str (fun _ _ => rfl)) (pe_lst pa_nil) (nomark _))))) 
        (pss_one (ps_expr (pe_bm PySem.F.plainAttrs_list PySem.F.slot_list_append PySem.F.type_list_append mt_append (pv 2) (pa_cons (pe_tup (pa_cons pe_non (pa_cons (pe_un un_neg pe_int) pa_nil))) pa_nil)))) 
        (pss_one (ps_if (pt_cmpR op_eq (pe_ix ix_tup (pv 5) pe_int (fun _ _ => rfl)) pe_str (nomark _)) 
          (pss_cons (ps_for PassesOwn.never rfl (pi_range1 (by rfl) T0.range (pa_cons (pe_callB call_len_seq (by rfl) T0.len PySem.boot_len (pa_cons (pv 0) pa_nil)) pa_nil)) (pg_name (i := 3) sc_law_play.nd rfl (Or.inl rfl)) 
            (pss_cons (ps_setLc (i := 9) (own := [("entry", 8)]) (g := gName 8) (tt := tYes) (by rfl) sc_law_play.nd rfl (by rfl) (sw_true rfl rfl rfl (by decide +kernel)) (pi_list (pe_dget hu (pe_ix ix_list (pv 0) (pv 6) (fun _ _ => rfl)) pe_str (fun _ _ => rfl))) (blkOk_by (own := [("entry", 8)]) (N := N_law_play) (sc := defScope s_law_play) (by decide +kernel)) (fun _ _ _ _ _ => pg_name (i := 8) sc_law_play.nd rfl (Or.inl rfl)) (fun _ _ _ _ _ => pts_nil) (fun _ _ _ _ _ => by exact (pe_ix (show IxR _ (rIxT K) from ix_tup) (pv 8) pe_int (fun _ _ => rfl)))) 
            (pss_cons (ps_set (i := 8) sc_law_play.nd rfl (.inl rfl) (pe_bm PySem.F.plainAttrs_list PySem.F.slot_list_pop PySem.F.type_list_pop mt_popAt (pe_dget hu (pe_ix ix_list (pv 0) (pv 6) (fun _ _ => rfl)) pe_str (fun _ _ => rfl)) (pa_cons (pe_bm PySem.F.plainAttrs_list PySem.F.slot_list_index PySem.F.type_list_index (mt_indexD (un65 hr)) (pv 9) (pa_cons (pe_callB (cr_minT rfl (un65 hr)) (by rfl) T0.min (by decide +kernel) (pa_cons (pv 9) pa_nil)) pa_nil)) pa_nil))) 
            (pss_cons (ps_if (pt_cmpR (op_eqD hr.units) (pe_dget hu (pe_ix ix_list (pv 0) (pv 6) (fun _ _ => rfl)) pe_str (fun _ _ => rfl)) (pe_tup pa_nil) (nomark _)) 
              (pss_one ps_break) pss_nil) 
            (pss_one (ps_set (i := 6) sc_law_play.nd rfl (.inl rfl) (pe_ix ix_list (pe_dget hu (pe_ix ix_list (pv 0) (pv 6) (fun _ _ => rfl)) pe_str (fun _ _ => rfl)) (pe_ix ix_tup (pv 8) pe_int (fun _ _ => rfl)) (fun _ _ => rfl)))))))) 
          (pss_one (ps_expr (pe_bm PySem.F.plainAttrs_list PySem.F.slot_list_append PySem.F.type_list_append mt_append (pv 2) (pa_cons (pe_tup (pa_cons (pe_ix ix_tup (pv 8) pe_int (fun _ _ => rfl)) (pa_cons (pv 6) pa_nil))) pa_nil))))) pss_nil))))))) 
    (pss_one (ps_ret (pv 2)))))), ?_⟩
  have hsl := sizeLine_eq
  refine ⟨(by show 0 ≤ sizeLine; decide), fun g hg => ?_⟩
  have s1 : Same H (upd H g (.lst [])) := same_new hg
  have hg1 : (upd H g (.lst [])) g = some (.lst []) := upd_same
  have hE1 := hE.grow (N := [g]) s1 (fun y hy => by rw [List.mem_singleton.mp hy]; exact hg) (fun y hy => by rw [List.mem_singleton.mp hy, hg1]; exact fun z => nomatch z)
  have hA1 := dp_same (offS_grow (S := S) (N := [g]) s1 (fun y hy => by rw [List.mem_singleton.mp hy]; exact hg)) hA
  have ngB : g ∉ RB.map Prod.snd := fun z => hE.bg.al _ (hE.bg.sub _ z) hg
  revert hg1 hE1 hA1 s1
  generalize upd H g (.lst []) = H1
  intro s1 hg1 hE1 hA1
  have hrl := hE1.rw.len
  refine ⟨_, rfl, sp, _, rfl, .inl (SqL.of hE1.rd.ln), ((T.nodes : Nat) : Int), (by rw [List.length_map, hrl]), by omega, by omega, fun Dl hDl => lc_range (lo := 0) (n := T.nodes) (fun i H' => Same H1 H' ∧ H' Dl = some (.lst ((((ad T).take i).filter (isLf T)).map fun a => V.int (T.idx a : Nat)))) ⟨same_new hDl, upd_same⟩ ?_ ?_⟩
  · rintro i H' hi ⟨s', hD⟩
    have hal := ad_len T
    have hq : (ad T)[i]? = some ((ad T)[i]'(by omega)) := List.getElem?_eq_getElem (by omega)
    generalize (ad T)[i]'(by omega) = q0 at hq
    obtain ⟨u, hu'⟩ := ad_sub (List.mem_of_getElem? hq)
    have hix := idx_of hq
    obtain ⟨r, b, k, fv, h1, h2, h3, h4, h5⟩ := (hE1.rd.same s').at hu'
    rw [hix] at h2
    have etk : (ad T).take (i + 1) = (ad T).take i ++ [q0] := by rw [List.take_add_one, hq]; rfl
    refine ⟨rfl, ?_⟩
    refine ⟨sp, _, i, r, _, fv, u, rfl, rfl, s' _ _ hE1.rd.ln, h2, h3, r9_fig .., h4, Nat.lt_of_le_of_lt (ht_le hu') hht, fun H2 s2 => ?_⟩
    have hlf : isLf T q0 = (u.len == 0) := isLf_o hu'
    by_cases c : (u.len == 0) = true
    · rw [c]
      refine iteT ⟨_, rfl, _, s2 _ _ hD, small1000 (by rw [List.length_map]; have := List.length_filter_le (isLf T) ((ad T).take i); rw [List.length_take] at this; omega), same_mut (Same.trans s' s2) hDl, ?_⟩
      rw [upd_same, etk, List.filter_append, List.map_append, List.filter_cons_of_pos (by rw [hlf, c]), Int.zero_add, ← hix]
      rfl
    · have c' : (u.len == 0) = false := by simpa using c
      rw [c']
      refine iteF ⟨Same.trans s' s2, ?_⟩
      rw [s2 _ _ hD, etk, List.filter_append, List.filter_cons_of_neg (by rw [hlf, c']; simp)]
      rw [List.filter_nil, List.append_nil]
  rintro H2 ⟨s2, hD2⟩
  rw [← ad_len, List.take_length] at hD2
  have hg2 := s2 _ _ hg1
  have hE2 := hE1.same s2
  have hA2 := dp_same (GoD.of (S := [g] ++ S) s2) hA1
  have ngD : Dl ≠ g := fun z => by rw [z, hg1] at hDl; exact nomatch hDl
  have nDB : Dl ∉ g :: RB.map Prod.snd := fun z => by
    rcases List.mem_cons.mp z with z | z
    · exact ngD z
    · exact hE1.bg.al _ (hE1.bg.sub _ z) hDl
  have mB : ∀ y ∈ g :: RB.map Prod.snd, y ∈ [g] ++ S := fun y hy => by
    rcases List.mem_cons.mp hy with rfl | hy
    · exact List.mem_cons_self ..
    · exact List.mem_cons_of_mem _ (hE.bg.sub _ hy)
  have mB2 : ∀ y ∈ RB.map Prod.snd, y ∈ [g] ++ S := fun y hy => mB y (List.mem_cons_of_mem _ hy)
  cases hA2 with
  | @tup a' evs _ heb hevs =>
  have hevl := dps_len hevs
  rw [List.length_map] at hevl
  refine ⟨_, rfl, a, rfl, ⟨_, same_sqt offS_same heb⟩, ?_⟩
  refine for_tup (K := K) (a := a) (xs := evs) (fun i σ H' => ∃ (o3 o5 o6 o7 o8 o9 : Option V) (ps : List (Evt × Gone)) (Lc : Lns) (Bc : Bgs) (gs : List V), σ = [some (.ref sp), some (.ref a), some (.ref g), o3, some (.ref Dl), o5, o6, o7, o8, o9] ∧ GoS (g :: RB.map Prod.snd) H2 H' ∧ SpE K ([g] ++ S) H' sp T RB Bc ∧ H' g = some (.lst gs) ∧ DpAll K (offS ([g] ++ S) H') gs (gonesT T ps) ∧ ps.map (·.1) = es.take i ∧ Run T (fun _ => []) ps Lc ∧ Rel T Bc Lc ∧ Con T Lc ∧ (∀ q, (Bc q).length ≤ i) ∧ ∀ p ∈ lv T, ∀ n ∈ its (Lc p), n ∈ nosE (es.take i))
    ⟨_, _, _, _, _, _, [], _, _, [], rfl, GoS.refl, hE2, hg2, .nil, rfl, .nil, (fun q0 _ => rfl), con0 T, (fun q0 => Nat.le_refl _), (fun p _ n h => nomatch h)⟩ (fun i σ H' _ ⟨_, _, _, _, _, _, _, _, _, _, _, gg, _⟩ => same_sqt (Same.trans (gg.d mB) offS_same) heb) ?_ ?_
  · rintro i x σ H4 hx ⟨o3, o5, o6, o7, o8, o9, ps, Lc, Bc, gs, rfl, g4, hE4, hg4, hgs, hps, run, rel, con, hBl, hits⟩
    have hil := (List.getElem?_eq_some_iff.mp hx).1
    rw [hevl] at hil
    have etk : es.take (i + 1) = es.take i ++ [es[i]] := List.take_succ_eq_append_getElem hil
    obtain ⟨dx0, hx1, hx2⟩ := dps_at hevs hx
    rw [List.getElem?_map, List.getElem?_eq_getElem hil] at hx1
    obtain rfl := Option.some.inj hx1
    have hee : es[i]? = some es[i] := List.getElem?_eq_getElem hil
    generalize es[i] = e at etk hx2 hee
    have hx4 := dp_same (g4.d mB) hx2
    have hin4 := hE4.ind
    have hD4 := g4.at hD2 nDB
    have hgl := gonesT_len T ps
    have hpl : ps.length = i := by
      have := congrArg List.length hps
      rw [List.length_map, List.length_take] at this
      omega
    have hgsl := dps_len hgs
    have nosk : nosE (es.take (i + 1)) = nosE (es.take i) ++ nosOf e := by
      rw [etk]
      unfold nosE
      rw [List.flatMap_append]
      simp
    cases e with
    | psh n qi rs =>
      obtain ⟨p, hp, hrsl, hrk, n0, n1⟩ := hst.ev _ (List.mem_of_getElem? hee)
      have hx4' : Dp K (offS ([g] ++ S) H4) x (.tuple [.str "push", .int n, .int (qi : Nat), .tuple (rs.map intsD)]) := hx4
      cases hx4' with
      | @tup xb xs2 _ hxb hxs =>
      cases hxs with
      | @cons v1 _ _ _ e1 hxs =>
      cases hxs with
      | @cons v2 _ _ _ e2 hxs =>
      cases hxs with
      | @cons v3 _ _ _ e3 hxs =>
      cases hxs with
      | @cons v4 _ _ _ e4 hxs =>
      cases hxs
      cases e1
      cases e2
      cases e3
      cases e4 with
      | @tup b4 x4 _ hb4 hx4s =>
      have hx4l := dps_len hx4s
      rw [List.length_map] at hx4l
      have hxb4 := same_sqt offS_same hxb
      have hplv := List.mem_of_getElem? hp
      have hpad := lv_ad hplv
      have hlvat : ((lv T).map fun a => V.int (T.idx a : Nat))[qi]? = some (.int (T.idx p : Nat)) := by rw [List.getElem?_map, hp]; rfl
      have hnew : n ∉ nosE (es.take i) := fun z => by
        have e0 : es = es.take i ++ es.drop i := (List.take_append_drop i es).symm
        have e1 : es.drop i = .psh n qi rs :: es.drop (i + 1) := by
          rw [List.drop_eq_getElem_cons hil]
          rw [List.getElem?_eq_getElem hil] at hee
          rw [Option.some.inj hee]
        have hnd := hst.nd
        rw [e0, e1] at hnd
        unfold nosE at hnd z
        rw [List.flatMap_append, List.flatMap_cons] at hnd
        exact (List.nodup_append.mp hnd).2.2 n z n (List.mem_append_left _ (List.mem_singleton.mpr rfl)) rfl
      have hfr : ∀ p' ∈ lv T, n ∉ its (Lc p') := fun p' hp' z => hnew (hits p' hp' n z)
      have hph := ht_path hplv
      refine ⟨_, rfl, xb, _, 0, _, rfl, rfl, hxb4, atI_0 rfl, rfl, _, rfl, ?_⟩
      refine ite2 (fun _ => ?_) (fun c => absurd (decide_eq_true rfl) c)
      refine ⟨_, rfl, _, rfl, xb, _, 2, _, rfl, rfl, hxb4, atI_2 rfl, Dl, _, _, _, rfl, rfl, SqL.of hD4, atI_nat hlvat, ?_⟩
      refine ⟨_, rfl, xb, _, 1, _, rfl, rfl, hxb4, atI_1 rfl, ?_⟩
      refine ⟨_, rfl, xb, _, 3, _, rfl, rfl, hxb4, atI_3 rfl, b4, x4, rfl, .inr (same_sqt offS_same hb4), ((p.length + 1 : Nat) : Int), congrArg (fun z => [V.int z]) (by omega), by omega, by omega, for_range (lo := 0) (n := p.length + 1) (fun k σ H' => ∃ (o3 : Option V) (pl it : Int), σ = [some (.ref sp), some (.ref a), some (.ref g), o3, some (.ref Dl), some (.ref xb), some (.int pl), some (.int it), o8, o9] ∧ (k ≤ p.length → pl = (T.idx (p.take (p.length - k)) : Nat) ∧ it = itm p n (p.length - k)) ∧ GoS (RB.map Prod.snd) H4 H' ∧ SpE K ([g] ++ S) H' sp T RB (pshU p rs n Bc k)) ⟨o3, _, _, rfl, (fun _ => ⟨by rw [Nat.sub_zero, List.take_length], by rw [Nat.sub_zero, itm_end]⟩), GoS.refl, by rw [pshU_zero]; exact hE4⟩ ?_ ?_⟩
      · rintro k σ H' hk ⟨o3', pl, it, rfl, hpi, g', hE'⟩
        obtain ⟨rfl, rfl⟩ := hpi (by omega)
        obtain ⟨w, hw⟩ := ad_sub (pre_ad hpad (List.take_prefix (p.length - k) p))
        obtain ⟨r, b, kk, fv, xs, z1, z2, z3, z4, z5, z6, z7⟩ := hE'.at hw
        have z3' := (offS_some z3).2
        have ln' := hE'.rd.ln
        have hxb' := same_sqt (Same.trans (g'.d mB2) offS_same) hxb
        have hb4' := same_sqt (Same.trans (g'.d mB2) offS_same) hb4
        have hx4s' := dps_same (g'.d mB2) hx4s
        obtain ⟨rv, hrv⟩ : ∃ rv, x4[p.length - k]? = some rv := ⟨_, List.getElem?_eq_getElem (by omega)⟩
        obtain ⟨rr, hrr, hrd⟩ := dp_ranks hx4s' hrv
        have hxl := dps_len z7
        rw [List.length_map, pshU_at p rs n Bc k (by omega)] at hxl
        have hBk := hBl (p.take (p.length - k))
        refine ⟨_, rfl, _, rfl, sp, _, _, _, rfl, rfl, SqL.of ln', atI_nat z2, r, .ref b, rfl, (r9_bag T _ w fv kk b ▸ DGet.k (k := Sum.inr ("bag" : Str)) z3'), .inl ⟨rfl, _, SqL.of z6⟩, ?_⟩
        refine ⟨_, rfl, xb, _, 3, _, rfl, rfl, hxb', atI_3 rfl, _, rfl, xb, _, 3, _, rfl, rfl, hxb', atI_3 rfl, b4, x4, rfl, .inr hb4', _, _, rfl, rfl, _, rfl, _, _, rfl, rfl, b4, _, _, _, rfl, rfl, hb4', (by rw [show ((x4.length : Nat) : Int) - 1 - (0 + (k : Int)) = ((p.length - k : Nat) : Int) by omega]; exact atI_nat hrv), _, rfl, (by show 2 ≤ sizeLine; decide), fun t ht => ?_⟩
        have s5 := same_new (o := .tup [rv, .int (itm p n (p.length - k))]) ht
        have ht5 := dpn (K := K) hE'.ind ht (.cons hrd (.cons (.int (itm p n (p.length - k))) .nil))
        have hE5 := hE'.same s5
        revert s5 ht5 hE5
        generalize upd H' t (.tup [rv, .int (itm p n (p.length - k))]) = H5
        intro s5 ht5 hE5
        refine ⟨b, xs, _, rfl, rfl, s5 _ _ z6, small1000 (by omega), ?_⟩
        have z75 := dps_same (GoD.of (S := [g] ++ S) s5) z7
        rw [pshU_at p rs n Bc k (by omega)] at z75
        have hgr : rs.getD (p.length - k) [] = rr := by rw [List.getD_eq_getElem?_getD, hrr]; rfl
        have hE6 := hE5.put (sub_ad hw) z1 (xs := xs ++ [.ref t]) (es := Bc (p.take (p.length - k)) ++ [(rr, itm p n (p.length - k))]) (by rw [List.map_append]; exact dps_app z75 (.cons ht5 .nil))
        have hE7 : SpE K ([g] ++ S) (upd H5 b (.lst (xs ++ [.ref t]))) sp T RB (pshU p rs n Bc (k + 1)) := hE6.eqB fun q0 => by
          rw [pshU_succ p rs n Bc k (by omega), hgr]
        have hbB := List.mem_of_getElem? z1
        have g6 : GoS (RB.map Prod.snd) H4 (upd H5 b (.lst (xs ++ [.ref t]))) := (g'.trans (GoS.of s5)).upd hbB
        revert hE7 g6
        generalize upd H5 b (.lst (xs ++ [.ref t])) = H6
        intro hE7 g6
        obtain ⟨r2, b2, kk2, fv2, xs2', y1, y2, y3, y4, y5, y6, y7⟩ := hE7.at hw
        have y3' := (offS_some y3).2
        refine ⟨_, rfl, _, rfl, sp, _, _, _, rfl, rfl, SqL.of hE7.rd.ln, atI_nat y2, r2, _, rfl, (r9_slot T _ w fv2 kk2 b2 ▸ DGet.k (k := Sum.inr ("slot" : Str)) y3'), ?_⟩
        refine ⟨_, rfl, _, rfl, sp, _, _, _, rfl, rfl, SqL.of hE7.rd.ln, atI_nat y2, r2, _, rfl, (r9_above T _ w fv2 kk2 b2 ▸ DGet.k (k := Sum.inr ("above" : Str)) y3'), _, _, rfl, ?_⟩
        refine ⟨_, _, _, rfl, fun hk1 => ?_, g6, hE7⟩
        have e1 : p.length - k = (p.length - (k + 1)) + 1 := by omega
        rw [e1]
        refine ⟨?_, whI_take (by omega) n⟩
        rw [upI_take (by omega)]
        split <;> omega
      · rintro σ H' ⟨o3', pl, it, rfl, _, g', hE'⟩
        rw [pshU_full] at hE'
        have hxb' := same_sqt (Same.trans (g'.d mB2) offS_same) hxb
        refine ⟨_, rfl, xb, _, 0, _, rfl, rfl, hxb', atI_0 rfl, rfl, _, rfl, ite2 (fun c => absurd (of_decide_eq_true c) (by decide +kernel)) (fun _ => ?_)⟩
        refine ⟨_, rfl, xb, _, 0, _, rfl, rfl, hxb', atI_0 rfl, rfl, _, rfl, ite2 (fun c => absurd (of_decide_eq_true c) (by decide +kernel)) (fun _ => ?_)⟩
        obtain ⟨wl, hwl, hwl0⟩ := lv_lf hplv
        refine ⟨_, _, _, _, _, _, ps ++ [(.psh n qi rs, none)], pshL p rs n Lc, pshB p rs n Bc, gs, rfl, g4.trans (g'.wide fun y hy => List.mem_cons_of_mem _ hy), hE', g'.at hg4 ngB, ?_, ?_, run.app (Run.one (.psh hp hrsl hrk n0 n1 hfr)), rel.psh p rs n, pshL_con con hwl hwl0, fun q0 => ?_, fun p' hp' m hm => ?_⟩
        · have : gonesT T (ps ++ [(.psh n qi rs, none)]) = gonesT T ps := by
            unfold gonesT
            rw [List.flatMap_append]
            exact List.append_nil _
          rw [this]
          exact dps_same (g'.d mB2) hgs
        · rw [List.map_append, hps, etk]
          rfl
        · have := hBl q0
          unfold pshB
          split
          · rw [List.length_append]
            exact Nat.succ_le_succ this
          · omega
        · rw [nosk]
          rcases its_psh hplv hp' hm with rfl | hm
          · exact List.mem_append_right _ (List.mem_singleton.mpr rfl)
          · exact List.mem_append_left _ (hits p' hp' m hm)
    | dep =>
      have hx4' : Dp K (offS ([g] ++ S) H4) x (.tuple [.str "depart"]) := hx4
      cases hx4' with
      | @tup xb xs2 _ hxb hxs =>
      cases hxs with
      | @cons v1 _ _ _ e1 hxs =>
      cases hxs
      cases e1
      have hxb4 := same_sqt offS_same hxb
      have hnosd : nosE (es.take (i + 1)) = nosE (es.take i) := by
        rw [nosk]
        exact List.append_nil _
      refine ⟨_, rfl, xb, _, 0, _, rfl, rfl, hxb4, atI_0 rfl, rfl, _, rfl, ?_⟩
      refine ite2 (fun c => absurd (of_decide_eq_true c) (by decide +kernel)) (fun _ => ?_)
      refine ⟨_, rfl, xb, _, 0, _, rfl, rfl, hxb4, atI_0 rfl, rfl, _, rfl, ite2 (fun _ => ?_) (fun c => absurd (decide_eq_true rfl) c)⟩
      obtain ⟨r, b, kk, fv, xs, z1, z2, z3, z4, z5, z6, z7⟩ := hE4.at (sub_nil T)
      have z3' := (offS_some z3).2
      rw [idx_nil] at z1 z2
      refine ⟨_, rfl, sp, _, 0, _, rfl, rfl, SqL.of hE4.rd.ln, atI_0 z2, r, _, rfl, (r9_bag T [] T fv kk b ▸ DGet.k (k := Sum.inr ("bag" : Str)) z3'), (by show 0 ≤ sizeLine; decide), fun el hel => ?_⟩
      have s5 := same_new (o := .lst []) hel
      have he5 : (upd H4 el (.lst [])) el = some (.lst []) := upd_same
      have hE5 := hE4.same s5
      revert s5 he5 hE5
      generalize upd H4 el (.lst []) = H5
      intro s5 he5 hE5
      have shB : SeqAt.shaped (.list ((Bc []).map enD)) = true := (shp_lst (n := 3) fun e he => by
        obtain ⟨y, _, rfl⟩ := List.mem_map.mp he
        exact shp_en (n := 1) y).ok (by decide)
      refine ⟨.list ((Bc []).map enD), .list [], .lst (SqL.of (s5 _ _ z6)) (dps_same (Same.trans (GoD.of (S := [g] ++ S) s5) offS_same) z7), .lst (SqL.of he5) .nil, shB, (shp_lst (n := 1) (ds := []) fun e he => by cases he).ok (by decide), _, rfl, ?_⟩
      have hg5 := s5 _ _ hg4
      have hgs5 := dps_same (GoD.of (S := [g] ++ S) s5) hgs
      have hxb5 := same_sqt s5 hxb4
      have gmem : g ∈ g :: RB.map Prod.snd := List.mem_cons_self ..
      have gS : ∀ y ∈ [g], y ∈ [g] ++ S := fun y hy => List.mem_append_left _ hy
      have gB2 : ∀ y ∈ [g], y ∉ RB.map Prod.snd := fun y hy => by rw [List.mem_singleton.mp hy]; exact ngB
      by_cases hempty : Bc [] = []
      · rw [hempty]
        refine iteT ?_
        have hL0 : Lc [] = [] := by
          rw [rel [] (List.mem_cons_self ..), hempty]
          rfl
        refine ⟨_, rfl, .inl ⟨rfl, _, SqL.of hg5⟩, _, rfl, (by show 2 ≤ sizeLine; decide), fun t ht => ?_⟩
        have s6 := same_new (o := .tup [.non, .int (-1)]) ht
        have ht6 := dpn (K := K) hE5.ind ht (.cons .non (.cons (.int (-1)) .nil))
        have hE6 := hE5.same s6
        revert s6 ht6 hE6
        generalize upd H5 t (.tup [.non, .int (-1)]) = H6
        intro s6 ht6 hE6
        refine ⟨g, _, _, rfl, rfl, s6 _ _ hg5, small1000 (by omega), ?_⟩
        have gg : GoS [g] H6 (upd H6 g (.lst (gs ++ [.ref t]))) := GoS.refl.upd (List.mem_singleton.mpr rfl)
        refine ⟨_, _, _, _, _, _, ps ++ [(.dep, none)], Lc, Bc, gs ++ [.ref t], rfl, ((g4.trans (GoS.of (Same.trans s5 s6))).upd gmem), hE6.keep gg gS gB2, upd_same, ?_, ?_, run.app (Run.one (.dep0 hL0)), rel, con, (fun q0 => Nat.le_succ_of_le (hBl q0)), fun p' hp' m hm => by rw [hnosd]; exact hits p' hp' m hm⟩
        · have : gonesT T (ps ++ [(.dep, none)]) = gonesT T ps ++ [.tuple [.none, .int (-1)]] := by
            unfold gonesT
            rw [List.flatMap_append]
            rfl
          rw [this]
          exact dps_app (dps_same (Same.trans (GoD.of (S := [g] ++ S) s6) (gg.d gS)) hgs5) (.cons (dp_same (gg.d gS) ht6) .nil)
        · rw [List.map_append, hps, etk]
          rfl
      · obtain ⟨z0, zt, hz0⟩ : ∃ z0 zt, Bc [] = z0 :: zt := by
          cases h0 : Bc [] with
          | nil => exact absurd h0 hempty
          | cons z0 zt => exact ⟨z0, zt, rfl⟩
        have heq : PyData.eqv (.list ((Bc []).map enD)) (.list []) = false := by
          rw [hz0]
          simp [PyData.eqv, PyData.eqvAll]
        rw [heq]
        refine iteF ?_
        have hLne : Lc [] ≠ [] := fun z => by
          have e := rel [] (List.mem_cons_self ..)
          have hl := lineB_len (Bc [])
          rw [← e, z, hz0] at hl
          exact nomatch hl
        obtain ⟨n, p, rs, dd⟩ := dep_ex T.size T Lc (Nat.le_refl _) con hLne
        have hplv := dep_lv dd
        obtain ⟨qi, hqi⟩ := List.mem_iff_getElem?.mp hplv
        have hpad := lv_ad hplv
        obtain ⟨wl, hwl, hwl0⟩ := dd.lf
        have hpn : p.length < T.nodes := by
          have h1 := len_idx T p wl hwl
          have h2 := idx_lt hwl
          have h3 := wl.nodes_pos
          omega
        refine ⟨_, rfl, xb, _, 0, _, rfl, rfl, hxb5, atI_0 rfl, rfl, _, rfl, ite2 (fun _ => ?_) (fun c => absurd (decide_eq_true rfl) c)⟩
        refine ⟨_, rfl, sp, _, rfl, .inl (SqL.of hE5.rd.ln), ((T.nodes : Nat) : Int), (by rw [List.length_map, hrl]), by omega, by omega, for_range (lo := 0) (n := T.nodes) (fun k σ H' => ∃ (o3 o8 o9 : Option V) (Bi : Bgs), σ = [some (.ref sp), some (.ref a), some (.ref g), o3, some (.ref Dl), some (.ref xb), some (.int (T.idx (p.take k) : Nat)), o7, o8, o9] ∧ k ≤ p.length ∧ GoS (RB.map Prod.snd) H5 H' ∧ SpE K ([g] ++ S) H' sp T RB Bi ∧ Rel T Bi (cutK p Lc k) ∧ ∀ q, (Bi q).length ≤ (Bc q).length) ⟨o3, o8, o9, Bc, (by rw [List.take_zero, idx_nil]; rfl), Nat.zero_le _, GoS.refl, hE5, (by rw [cutK_zero]; exact rel), fun _ => Nat.le_refl _⟩ ?_ ?_⟩
        · rintro k σ H' hk ⟨o3', o8', o9', Bi, rfl, hkp, g', hE', rel', hle⟩
          obtain ⟨w, hw⟩ := ad_sub (pre_ad hpad (List.take_prefix k p))
          obtain ⟨r, b, kk, fv, xs, z1, z2, z3, z4, z5, z6, z7⟩ := hE'.at hw
          have z3' := (offS_some z3).2
          have ln' := hE'.rd.ln
          obtain ⟨r0, t0, hL⟩ : ∃ r0 t0, Lc (p.take k) = (r0, itm p n k) :: t0 := by
            by_cases c : k < p.length
            · obtain ⟨r0, t0, h1, _⟩ := dd.hd k p[k] (List.getElem?_eq_getElem c)
              exact ⟨r0, t0, by rw [h1]; unfold itm; rw [List.getElem?_eq_getElem c]⟩
            · have e : k = p.length := by omega
              obtain ⟨r0, t0, h1, _⟩ := dd.la
              exact ⟨r0, t0, by rw [e, List.take_length, itm_end]; exact h1⟩
          have hlb : lineB (Bi (p.take k)) = (r0, itm p n k) :: t0 := by rw [← rel' _ (sub_ad hw), cutK_at p Lc k hkp, hL]
          have hBne : Bi (p.take k) ≠ [] := fun z => by
            rw [z] at hlb
            exact nomatch hlb
          obtain ⟨j, e, fm⟩ := first_min _ (Bi (p.take k)) rfl hBne
          have hpop := lineB_pop _ _ j e rfl fm
          rw [hlb] at hpop
          obtain ⟨he, ht0⟩ := List.cons.inj hpop
          have hxl := dps_len z7
          rw [List.length_map] at hxl
          have hjl := (List.getElem?_eq_some_iff.mp fm.at_).1
          have hBk := Nat.le_trans (hle (p.take k)) (hBl (p.take k))
          have z7p := dps_same offS_same z7
          -- the ranks
          refine ⟨_, rfl, _, rfl, sp, _, _, _, rfl, rfl, SqL.of ln', atI_nat z2, r, .ref b, rfl, (r9_bag T _ w fv kk b ▸ DGet.k (k := Sum.inr ("bag" : Str)) z3'), b, rfl, ⟨_, SqL.of z6⟩, fun Dr hDr => ?_⟩
          refine lc_list (K := K) (a := b) (xs := xs) (fun m H'' => Same H' H'' ∧ ∃ vs, H'' Dr = some (.lst vs) ∧ DpAll K H' vs (((Bi (p.take k)).take m).map fun e => intsD e.1)) ⟨same_new hDr, [], upd_same, .nil⟩ (fun m H'' _ ⟨s, _⟩ => SqL.of (s _ _ z6)) ?_ ?_
          · rintro m x' H'' hx' ⟨s', vs, hD, hvs⟩
            have hml := (List.getElem?_eq_some_iff.mp hx').1
            obtain ⟨em, be, rv, y1, rfl, y3, y4⟩ := dps_en z7p hx'
            have hvl := dps_len hvs
            rw [List.length_map, List.length_take] at hvl
            refine ⟨rfl, _, rfl, be, _, 0, _, rfl, rfl, same_sqt s' y3, atI_0 rfl, _, hD, small1000 (by omega), same_mut s' hDr, vs ++ [rv], upd_same, ?_⟩
            rw [List.take_add_one, y1, List.map_append]
            exact dps_app hvs (.cons y4 .nil)
          rintro H6 ⟨s6, vs, hD, hvs⟩
          rw [hxl, List.take_length] at hvs
          have hvl := dps_len hvs
          rw [List.length_map] at hvl
          have hvs6 := dps_same s6 hvs
          have hlst6 : Dp K H6 (.ref Dr) (.list ((Bi (p.take k)).map fun e => intsD e.1)) := .lst (SqL.of hD) hvs6
          have shR : SeqAt.shaped (.list ((Bi (p.take k)).map fun e => intsD e.1)) = true := (shp_lst (n := 2) fun d hd => by
            obtain ⟨y, _, rfl⟩ := List.mem_map.mp hd
            exact shp_ints (n := 1)).ok (by decide)
          -- what is taken
          refine ⟨_, rfl, _, rfl, sp, _, _, _, rfl, rfl, SqL.of (s6 _ _ ln'), atI_nat z2, r, .ref b, rfl, (r9_bag T _ w fv kk b ▸ DGet.k (k := Sum.inr ("bag" : Str)) (s6 _ _ z3')), .inl ⟨rfl, _, SqL.of (s6 _ _ z6)⟩, ?_⟩
          have hpair : Paired (TupI K H6) vs ((Bi (p.take k)).map (·.1)) := by
            have : ∀ (l : List En) (us : List V), DpAll K H6 us (l.map fun e => intsD e.1) → Paired (TupI K H6) us (l.map (·.1)) := fun l => by
              induction l with
              | nil => intro us h; cases h; exact .nil
              | cons y l ih =>
                intro us h
                cases h with
                | cons h1 h2 =>
                  refine .cons ?_ (ih _ h2)
                  cases h1 with
                  | @tup ra rxs _ hs hx =>
                    have e : ∀ (l : List Int) (us : List V), DpAll K H6 us (l.map PyData.int) → us = l.map V.int := fun l => by
                      induction l with
                      | nil => intro us h; cases h; rfl
                      | cons y l ih =>
                        intro us h
                        cases h with
                        | cons h1 h2 => cases h1; rw [ih _ h2]; rfl
                    exact ⟨ra, rfl, by rw [← e _ _ hx]; exact hs⟩
            exact this _ _ hvs6
          refine ⟨_, rfl, .inl ⟨rfl, _, SqL.of hD⟩, _, rfl, Dr, vs, _, rfl, SqL.of hD, by omega, hpair, fun m x' kx hm hkx hmin => ?_⟩
          rw [List.getElem?_map] at hkx
          obtain ⟨em, hem, rfl⟩ := Option.map_eq_some_iff.mp hkx
          have hkx2 : em.1 = e.1 := lex_tot0 _ _ (fm.mn em (List.mem_of_getElem? hem)) (hmin _ (List.mem_map.mpr ⟨e, List.mem_of_getElem? fm.at_, rfl⟩))
          obtain ⟨dm, hdm1, hdm2⟩ := dps_at hvs6 hm
          rw [List.getElem?_map, hem] at hdm1
          obtain rfl := Option.some.inj hdm1
          refine ⟨Dr, x', intsD em.1, (Bi (p.take k)).map (fun e : En => intsD e.1), j, intsD e.1, rfl, rfl, hlst6, hdm2, shR, (shp_ints (n := 1)).ok (by decide), by rw [List.getElem?_map, fm.at_]; rfl, by rw [eqv_ints, hkx2]; exact decide_eq_true rfl, fun m' z' hm' hz' => ?_, ?_⟩
          · rw [List.getElem?_map] at hz'
            obtain ⟨ez, hez, rfl⟩ := Option.map_eq_some_iff.mp hz'
            rw [eqv_ints, hkx2]
            exact decide_eq_false (fm.fs m' ez hm' hez)
          obtain ⟨xj, hxj⟩ : ∃ xj, xs[j]? = some xj := ⟨_, List.getElem?_eq_getElem (by omega)⟩
          obtain ⟨ej, be, rv, y1, rfl, y3, y4⟩ := dps_en z7p hxj
          rw [fm.at_] at y1
          obtain rfl := Option.some.inj y1
          refine ⟨b, xs, ((j : Nat) : Int), j, _, rfl, rfl, s6 _ _ z6, by omega, by omega, (ixN_seq (ixN_nat (by omega))).1, hxj, ?_⟩
          have hE6 := hE'.same s6
          have hE7 := hE6.put (sub_ad hw) z1 (xs := xs.eraseIdx j) (es := (Bi (p.take k)).eraseIdx j) (by rw [← map_erase]; exact dps_erase j (dps_same (GoD.of (S := [g] ++ S) s6) z7))
          have hbB := List.mem_of_getElem? z1
          have g7 : GoS (RB.map Prod.snd) H5 (upd H6 b (.lst (xs.eraseIdx j))) := (g'.trans (GoS.of s6)).upd hbB
          have rel7 : Rel T (fun r => if r = p.take k then (Bi (p.take k)).eraseIdx j else Bi r) (cutK p Lc (k + 1)) := fun q0 hq0 => by
            rw [cutK_succ p Lc k hkp]
            by_cases c : q0 = p.take k
            · show (if _ then _ else _) = lineB (if _ then _ else _)
              rw [if_pos c, if_pos c, hL, ← ht0]
              rfl
            · show (if _ then _ else _) = lineB (if _ then _ else _)
              rw [if_neg c, if_neg c]
              exact rel' q0 hq0
          have hle7 : ∀ q, ((fun r => if r = p.take k then (Bi (p.take k)).eraseIdx j else Bi r) q : List En).length ≤ (Bc q).length := fun q0 => by
            show (if _ then _ else _ : List En).length ≤ _
            by_cases c : q0 = p.take k
            · rw [if_pos c, c]
              exact Nat.le_trans (List.length_eraseIdx_le ..) (hle _)
            · rw [if_neg c]
              exact hle q0
          have hbe7 : SqT K (upd H6 b (.lst (xs.eraseIdx j))) be [rv, .int e.2] := by
            have kb : KeepT H6 (upd H6 b (.lst (xs.eraseIdx j))) := fun y ys => ⟨fun h => by
              rw [upd_ne (fun z => by rw [z, s6 _ _ z6] at h; exact nomatch h)]
              exact h, fun o h => by
              rw [upd_ne (fun z => by rw [z, s6 _ _ z6] at h; exact nomatch h)]
              exact h⟩
            exact kt_sqt kb (same_sqt s6 y3)
          rw [← he] at hbe7
          revert hE7 g7 rel7 hle7 hbe7
          generalize (fun r => if r = p.take k then (Bi (p.take k)).eraseIdx j else Bi r) = Bj
          generalize upd H6 b (.lst (xs.eraseIdx j)) = H7
          intro hE7 g7 rel7 hle7 hbe7
          obtain ⟨r2, b2, kk2, fv2, xs2', y1, y2, y3', y4', y5, y6, y7⟩ := hE7.at hw
          have y3r := (offS_some y3').2
          refine ⟨_, rfl, _, rfl, sp, _, _, _, rfl, rfl, SqL.of hE7.rd.ln, atI_nat y2, r2, fv2, rfl, (r9_fig T _ w fv2 kk2 b2 ▸ DGet.k (k := Sum.inr ("figure" : Str)) y3r), (by show 0 ≤ sizeLine; decide), fun el2 hel2 => ?_⟩
          have s8 := same_new (o := .tup []) hel2
          have he8 : (upd H7 el2 (.tup [])) el2 = some (.tup []) := upd_same
          revert s8 he8
          generalize upd H7 el2 (.tup []) = H8
          intro s8 he8
          have hE8 := hE7.same s8
          refine ⟨dD w, .tuple [], dp_same (Same.trans offS_same s8) (shv_dp y4'), .tup (SqT.of he8) .nil, (shp_dD 20 w (Nat.lt_of_le_of_lt (ht_le hw) hht)).ok (by decide), (shp_tup (n := 1) (ds := []) fun e he => by cases he).ok (by decide), _, rfl, ?_⟩
          rw [eqv_leaf]
          have hg8 : H8 g = some (.lst gs) := s8 _ _ (g7.at hg5 ngB)
          have hbe8 := same_sqt s8 hbe7
          by_cases c : k < p.length
          · have hwl : p[k] < w.len := dd.fork c hw
            have e0 : (w.len == 0) = false := by simp; omega
            rw [e0]
            refine iteF ?_
            have hitm : itm p n k = ((p[k] : Nat) : Int) := by unfold itm; rw [List.getElem?_eq_getElem c]
            refine ⟨_, rfl, _, rfl, sp, _, _, _, rfl, rfl, SqL.of hE8.rd.ln, atI_nat y2, r2, .ref kk2, rfl, (r9_kids T _ w fv2 kk2 b2 ▸ DGet.k (k := Sum.inr ("kids" : Str)) (s8 _ _ y3r)), _, rfl, be, _, 1, _, rfl, rfl, hbe8, atI_1 rfl, kk2, _, _, _, rfl, rfl, SqL.of (s8 _ _ (offS_some y5).2), (by show atI _ (itm p n k) = _; rw [hitm]; exact atI_nat (kidV_at hwl)), ?_⟩
            refine ⟨some (.int (0 + (k : Int))), some (.ref be), some (.ref Dr), Bj, ?_, c, g7.trans (GoS.of s8), hE8, rel7, hle7⟩
            rw [List.take_succ_eq_append_getElem c]
            rfl
          · have ek : k = p.length := by omega
            have hwl' : w = wl := by
              rw [ek, List.take_length, hwl] at hw
              exact (Option.some.inj hw).symm
            have e0 : (w.len == 0) = true := by rw [hwl', hwl0]; rfl
            rw [e0]
            refine iteT ?_
            refine ⟨_, rfl, .inl ⟨rfl, _, SqL.of hg8⟩, _, rfl, be, _, 1, _, rfl, rfl, hbe8, atI_1 rfl, _, rfl, (by show 2 ≤ sizeLine; decide), fun t ht => ?_⟩
            have s9 := same_new (o := .tup [.int (itm p n k), .int (T.idx (p.take k) : Nat)]) ht
            have ht9 := dpn (K := K) hE8.ind ht (.cons (.int (itm p n k)) (.cons (.int ((T.idx (p.take k) : Nat) : Int)) .nil))
            have hE9 := hE8.same s9
            have hg9 := s9 _ _ hg8
            revert s9 ht9 hE9 hg9
            generalize upd H8 t (.tup [.int (itm p n k), .int (T.idx (p.take k) : Nat)]) = H9
            intro s9 ht9 hE9 hg9
            refine ⟨g, _, _, rfl, rfl, hg9, small1000 (by omega), ?_⟩
            have gg : GoS [g] H9 (upd H9 g (.lst (gs ++ [.ref t]))) := GoS.refl.upd (List.mem_singleton.mpr rfl)
            have g59 : GoS (RB.map Prod.snd) H5 H9 := g7.trans (GoS.of (Same.trans s8 s9))
            rw [ek, List.take_length, itm_end] at ht9
            rw [ek, cutK_full] at rel7
            refine ⟨_, _, _, _, _, _, ps ++ [(.dep, some (n, qi, rs))], cutL p Lc, Bj, gs ++ [.ref t], rfl, ((g4.trans (GoS.of s5)).trans (g59.wide fun y hy => List.mem_cons_of_mem _ hy)).upd gmem, hE9.keep gg gS gB2, upd_same, ?_, ?_, run.app (Run.one (.dep dd hqi)), rel7, dep_con con dd, (fun q0 => Nat.le_succ_of_le (Nat.le_trans (hle7 q0) (hBl q0))), fun p' hp' m hm => by rw [hnosd]; exact hits p' hp' m (its_cut hm)⟩
            · have : gonesT T (ps ++ [(.dep, some (n, qi, rs))]) = gonesT T ps ++ [.tuple [.int n, .int (T.idx p : Nat)]] := by
                unfold gonesT
                rw [List.flatMap_append]
                show _ ++ [_] = _
                rw [List.getD_eq_getElem?_getD, hqi]
                rfl
              rw [this]
              exact dps_app (dps_same (Same.trans (g59.d mB2) (gg.d gS)) hgs5) (.cons (dp_same (gg.d gS) ht9) .nil)
            · rw [List.map_append, hps, etk]
              rfl
        · rintro σ H' ⟨o3', o8', o9', Bi, rfl, hkp, _⟩
          omega
  · rintro σ H4 ⟨o3, o5, o6, o7, o8, o9, ps, Lc, Bc, gs, rfl, g4, hE4, hg4, hgs, hps, run, rel, con, hBl, hits⟩
    rw [hevl, List.take_length] at hps
    have gH : GoS (RB.map Prod.snd) H H4 := ⟨fun y o e => by
      obtain ⟨e1, e2⟩ := offS_some e
      rw [offS_ne e1]
      refine g4.at (s2 _ _ (s1 _ _ e2)) fun z => ?_
      rcases List.mem_cons.mp z with z | z
      · rw [z, hg] at e2
        exact nomatch e2
      · exact e1 z, fun y hy => g4.k y (same_al s2 (same_al s1 hy))⟩
    refine ⟨_, rfl, q H4 g gs ps Lc Bc gH ?_ hps run rel (fun q0 => by have := hBl q0; omega) hg hg4 (dps_same (offS_sub fun y hy => List.mem_append_right _ hy) hgs)⟩
    exact ⟨hE4.rw.same (offS_sub fun y hy => List.mem_append_right _ hy), ⟨fun y hy => hE.bg.sub y hy, fun y hy => hE4.bg.al y (List.mem_append_right _ hy), hE4.bg.nd, hE4.bg.len, fun q0 hq0 => by
      obtain ⟨b, xs, h1, h2, h3⟩ := hE4.bg.li q0 hq0
      exact ⟨b, xs, h1, h2, dps_same (offS_sub fun y hy => List.mem_append_right _ hy) h3⟩⟩⟩
end
end K65
set_option Elab.async false
set_option linter.all false
set_option maxRecDepth 100000
set_option maxHeartbeats 8000000
namespace K65
open PySem PySem.Spec PyProof.Rows L2 Dt
/-! ### _law_cut -/
theorem nosE_take (es : List Evt) (k : Nat) : nosE es = nosE (es.take k) ++ nosE (es.drop k) := by
  conv => lhs; rw [← List.take_append_drop k es]
  unfold nosE
  rw [List.flatMap_append]
theorem noPart_t {σ : L2.St} {H : Hp} {Qk : Option Int → Hp → Prop} (h : Qk none H) : tNoPart σ H Qk := h
theorem StoryOK.take {T : Dt} {es : List Evt} (h : StoryOK T es) (k : Nat) : StoryOK T (es.take k) := ⟨fun e he => h.ev e (List.mem_of_mem_take he), by
  have := h.nd
  rw [nosE_take es k] at this
  exact (List.nodup_append.mp this).1⟩
def spCut (K : PySem.W.Frag) : Sp := fun vs H Q _ => ∃ (a : Addr) (S : List Addr) (T : Dt) (es : List Evt), vs = [.ref a] ∧ InD S H ∧ Dp K (offS S H) (.ref a) (.tuple (es.map evD)) ∧ StoryOK T es ∧ es.length ≤ 70 ∧ T.ht < 20 ∧
  ∀ H' r es', Same H H' → Dp K (offS S H') (.ref r) (.tuple (es'.map evD)) → StoryOK T es' → es'.length ≤ 70 → Q (.ref r) H'
section
variable {P : Program} {w : World} {K : PySem.W.Frag} {mg : Str → Option Value} {base : Heap}
theorem ok_cut (D : DefAt K mg "_law_cut" s_law_cut ["story"]) (T0 : Txt K mg) (nSum : mg "sum" = none) : CalX P w K mg base CX0 1 "_law_cut" ["story"] (spCut K) := by
  refine D.ok sc_law_cut (fun vs H Q E h => ?_) (fun f cdv A outer s H vs Q E hr h => ?_)
  · obtain ⟨a, S, T, es, rfl, _⟩ := h
    rfl
  obtain ⟨a, S, T, es, rfl, hin, hA, hst, hel, hht, q⟩ := h
  refine ⟨_, (pss_cons (ps_set (i := 1) sc_law_cut.nd rfl (.inl rfl) pe_int) 
    (pss_cons (ps_for PassesOwn.never rfl (pi_range1 (by rfl) T0.range (pa_cons (pe_callB call_len_seq (by rfl) T0.len PySem.boot_len (pa_cons (pv 0) pa_nil)) pa_nil)) (pg_name (i := 2) sc_law_cut.nd rfl (Or.inl rfl)) 
      (pss_cons (ps_set (i := 1) sc_law_cut.nd rfl (.inl rfl) (pe_op op_add (pe_op op_add (pv 1) pe_int) (pe_callB call_len_seq (by rfl) T0.len PySem.boot_len (pa_cons (pe_ix ix_tup (pv 0) (pv 2) (fun _ _ => rfl)) pa_nil)))) 
      (pss_cons (ps_for PassesOwn.never rfl (pi_tup (pe_slice sl_tupA (pe_ix ix_tup (pv 0) (pv 2) (fun _ _ => rfl)) (po_some pe_int) po_none)) (pg_name (i := 3) sc_law_cut.nd rfl (Or.inl rfl)) 
        (pss_one (ps_set (i := 1) sc_law_cut.nd rfl (.inl rfl) (pe_op op_add (pv 1) (pe_callB (cr_sum rfl) (by rfl) nSum (by decide +kernel) (pa_cons (pe_lc (own := [("rank", 4)]) (g := gName 4) (tt := tYes) (by rfl) sc_law_cut.nd (pi_tup (pv 3)) (blkOk_by (own := [("rank", 4)]) (N := N_law_cut) (sc := defScope s_law_cut) (by decide +kernel)) (fun _ _ _ _ _ => pg_name (i := 4) sc_law_cut.nd rfl (Or.inl rfl)) (fun _ _ _ _ _ => pts_nil) (fun _ _ _ _ _ => by exact (pe_op op_add pe_int (pe_callB (call_len_seqK (K := K) (by exact rfl)) (by rfl) T0.len PySem.boot_len (pa_cons (pv 4) pa_nil))))) pa_nil)))))) 
      (pss_one (ps_if (pt_cmpR op_gt (pv 1) pe_int (nomark _)) 
        (pss_one (ps_ret (pe_slice sl_tupA (pv 0) po_none (po_some (pv 2))))) pss_nil))))) 
    (pss_one (ps_ret (pv 0))))), ?_⟩
  have hsl := sizeLine_eq
  cases hA with
  | @tup a' evs _ heb hevs =>
  have hevl := dps_len hevs
  rw [List.length_map] at hevl
  refine ⟨_, rfl, a, evs, rfl, .inr (same_sqt offS_same heb), ((es.length : Nat) : Int), congrArg (fun z => [V.int z]) (by omega), by omega, by omega, for_range (lo := 0) (n := es.length) (fun k σ H' => ∃ (m : Int) (o2 o3 o4 : Option V), σ = [some (.ref a), some (.int m), o2, o3, o4] ∧ Same H H') ⟨_, _, _, _, rfl, Same.refl _⟩ ?_ ?_⟩
  · rintro k σ H1 hk ⟨m, o2, o3, o4, rfl, s1⟩
    have hek : es[k]? = some es[k] := List.getElem?_eq_getElem hk
    obtain ⟨x, hx⟩ : ∃ x, evs[k]? = some x := ⟨_, List.getElem?_eq_getElem (by omega)⟩
    obtain ⟨dx0, hx1, hx2⟩ := dps_at hevs hx
    rw [List.getElem?_map, hek] at hx1
    obtain rfl := Option.some.inj hx1
    generalize es[k] = e at hek hx2
    have g1 : GoD S H H1 := GoD.of s1
    have heb1 := same_sqt (Same.trans offS_same s1) heb
    have hx2' := dp_same g1 hx2
    have atk : atI evs (0 + (k : Int)) = some x := by rw [Int.zero_add]; exact atI_nat hx
    -- the end of the turn
    have fin : ∀ (xb : Addr) (m' : Int) (o3' o4' : Option V) H2, Same H1 H2 → SqT K H2 a evs → True := fun _ _ _ _ _ _ _ => trivial
    cases e with
    | psh n qi rs =>
      obtain ⟨p, hp, hrsl, hrk, n0, n1⟩ := hst.ev _ (List.mem_of_getElem? hek)
      have hph := ht_path (List.mem_of_getElem? hp)
      have hx4' : Dp K (offS S H1) x (.tuple [.str "push", .int n, .int (qi : Nat), .tuple (rs.map intsD)]) := hx2'
      cases hx4' with
      | @tup xb xs2 _ hxb hxs =>
      cases hxs with
      | @cons v1 _ _ _ e1 hxs =>
      cases hxs with
      | @cons v2 _ _ _ e2 hxs =>
      cases hxs with
      | @cons v3 _ _ _ e3 hxs =>
      cases hxs with
      | @cons v4 _ _ _ e4 hxs =>
      cases hxs
      cases e1
      cases e2
      cases e3
      cases e4 with
      | @tup b4 x4 _ hb4 hx4s =>
      have hx4l := dps_len hx4s
      rw [List.length_map] at hx4l
      have hxb1 := same_sqt offS_same hxb
      refine ⟨_, rfl, _, _, rfl, rfl, _, rfl, _, rfl, a, _, _, _, rfl, rfl, heb1, atk, xb, _, rfl, .inr hxb1, _, _, rfl, rfl, ?_⟩
      refine ⟨_, rfl, _, rfl, a, _, _, _, rfl, rfl, heb1, atk, _, rfl, ?_⟩
      refine noPart_t ?_
      refine rSlA_off (hin.same s1) hxb fun sl H2 s2 hsl2 => ?_
      rw [show (3 : Int) = ((3 : Nat) : Int) from rfl, cut_drop] at hsl2
      have hsl2' := same_sqt offS_same hsl2
      refine ⟨sl, rfl, ⟨_, hsl2'⟩, ?_⟩
      refine for_tup (K := K) (a := sl) (xs := [.ref b4]) (fun i σ H' => ∃ (m : Int) (o3 o4 : Option V), σ = [some (.ref a), some (.int m), some (.int (0 + (k : Int))), o3, o4] ∧ Same H2 H') ⟨_, _, _, rfl, Same.refl _⟩ (fun i σ H' _ ⟨_, _, _, _, s⟩ => same_sqt s hsl2') ?_ ?_
      · rintro i y σ H3 hy ⟨m', o3', o4', rfl, s3⟩
        obtain rfl : y = .ref b4 := by
          cases i with
          | zero => exact (Option.some.inj hy).symm
          | succ i => exact nomatch hy
        have s13 := Same.trans s2 s3
        have hb43 := same_sqt (Same.trans offS_same s13) hb4
        refine ⟨_, rfl, _, rfl, b4, rfl, ⟨_, hb43⟩, fun Dl hDl => ?_⟩
        refine lc_tup (K := K) (a := b4) (xs := x4) (fun j H' => Same H3 H' ∧ ∃ ns : List Int, H' Dl = some (.lst (ns.map V.int)) ∧ ns.length = j) ⟨same_new hDl, [], upd_same, rfl⟩ (fun j H' _ ⟨s, _⟩ => same_sqt s hb43) ?_ ?_
        · rintro j z H4 hz ⟨s4, ns, hD, hns⟩
          have hjl := (List.getElem?_eq_some_iff.mp hz).1
          obtain ⟨rr, hrr, hrd⟩ := dp_ranks (dps_same (GoD.of (S := S) (Same.trans s13 s4)) hx4s) hz
          cases hrd with
          | @tup rb rxs _ hrb hrx =>
          refine ⟨rfl, _, rfl, rb, rxs, rfl, .inr (same_sqt offS_same hrb), _, _, rfl, rfl, _, hD, small1000 (by rw [List.length_map]; omega), same_mut s4 hDl, ns ++ [1 + ((rxs.length : Nat) : Int)], ?_, by rw [List.length_append, hns]; rfl⟩
          rw [upd_same, List.map_append]
          rfl
        · rintro H4 ⟨s4, ns, hD, hns⟩
          exact ⟨Dl, ns, rfl, SqL.of hD, _, _, rfl, rfl, _, _, _, rfl, Same.trans s3 s4⟩
      · rintro σ H3 ⟨m', o3', o4', rfl, s3⟩
        have s13 := Same.trans s1 (Same.trans s2 s3)
        refine ⟨_, rfl, _, _, rfl, rfl, _, rfl, ite2 (fun _ => ?_) (fun _ => ?_)⟩
        · refine ⟨_, rfl, _, rfl, _, rfl, ?_⟩
          refine rSlA_off (hin.same s13) (same_sqt (GoD.of (S := S) s13) heb) fun r H4 s4 hr4 => ?_
          rw [Int.zero_add, cut_take] at hr4
          exact q H4 r (es.take k) (Same.trans s13 s4) (.tup hr4 (by rw [List.map_take]; exact dps_take k (dps_same (GoD.of (S := S) (Same.trans s13 s4)) hevs))) (hst.take k) (by rw [List.length_take]; omega)
        · exact ⟨_, _, _, _, rfl, s13⟩
    | dep =>
      have hx4' : Dp K (offS S H1) x (.tuple [.str "depart"]) := hx2'
      cases hx4' with
      | @tup xb xs2 _ hxb hxs =>
      cases hxs with
      | @cons v1 _ _ _ e1 hxs =>
      cases hxs
      cases e1
      have hxb1 := same_sqt offS_same hxb
      refine ⟨_, rfl, _, _, rfl, rfl, _, rfl, _, rfl, a, _, _, _, rfl, rfl, heb1, atk, xb, _, rfl, .inr hxb1, _, _, rfl, rfl, ?_⟩
      refine ⟨_, rfl, _, rfl, a, _, _, _, rfl, rfl, heb1, atk, _, rfl, ?_⟩
      refine noPart_t ?_
      refine rSlA_off (hin.same s1) hxb fun sl H2 s2 hsl2 => ?_
      rw [show (3 : Int) = ((3 : Nat) : Int) from rfl, cut_drop] at hsl2
      have hsl2' := same_sqt offS_same hsl2
      refine ⟨sl, rfl, ⟨_, hsl2'⟩, ?_⟩
      refine for_tup (K := K) (a := sl) (xs := []) (fun i σ H' => ∃ (m : Int) (o3 o4 : Option V), σ = [some (.ref a), some (.int m), some (.int (0 + (k : Int))), o3, o4] ∧ Same H2 H') ⟨_, _, _, rfl, Same.refl _⟩ (fun i σ H' _ ⟨_, _, _, _, s⟩ => same_sqt s hsl2') (fun i y σ H3 hy => by exact nomatch hy) ?_
      · rintro σ H3 ⟨m', o3', o4', rfl, s3⟩
        have s13 := Same.trans s1 (Same.trans s2 s3)
        refine ⟨_, rfl, _, _, rfl, rfl, _, rfl, ite2 (fun _ => ?_) (fun _ => ?_)⟩
        · refine ⟨_, rfl, _, rfl, _, rfl, ?_⟩
          refine rSlA_off (hin.same s13) (same_sqt (GoD.of (S := S) s13) heb) fun r H4 s4 hr4 => ?_
          rw [Int.zero_add, cut_take] at hr4
          exact q H4 r (es.take k) (Same.trans s13 s4) (.tup hr4 (by rw [List.map_take]; exact dps_take k (dps_same (GoD.of (S := S) (Same.trans s13 s4)) hevs))) (hst.take k) (by rw [List.length_take]; omega)
        · exact ⟨_, _, _, _, rfl, s13⟩
  · rintro σ H1 ⟨m, o2, o3, o4, rfl, s1⟩
    exact ⟨_, rfl, q H1 a es s1 (dp_same (GoD.of s1) (.tup heb hevs)) hst hel⟩
end
end K65
set_option Elab.async false
set_option linter.all false
set_option maxRecDepth 100000
set_option maxHeartbeats 8000000
namespace K65
open PySem PySem.Spec PyProof.Rows L2 Dt
/-! ### _law_line -/
def kAt (H : Hp) (rks : List (List Int)) : V → List Int × Int
  | .ref t => (match H t with | some (.tup [_, .int i]) => (rks.getD i.toNat [], i) | _ => ([], 0))
  | _ => ([], 0)
theorem kAt_of {H : Hp} {rks : List (List Int)} {t : Addr} {v : V} {j : Nat} (h : H t = some (.tup [v, .int (j : Nat)])) : kAt H rks (.ref t) = (rks.getD j [], ((j : Nat) : Int)) := by
  show (match H t with | some (.tup [_, .int i]) => (rks.getD i.toNat [], i) | _ => ([], 0)) = _
  rw [h]
  rfl
theorem dp_intsV {K : PySem.W.Frag} {H : Hp} : ∀ (l : List Int) (us : List V), DpAll K H us (l.map PyData.int) → us = l.map V.int
  | [], us, h => by cases h; rfl
  | y :: l, us, h => by
    cases h with
    | cons h1 h2 => cases h1; rw [dp_intsV l _ h2]; rfl
def spBagLine (K : PySem.W.Frag) : Sp := fun vs H Q _ => ∃ (r b : Addr) (kvs : List (Key × V)) (xs : List V) (es : List En) (S : List Addr), vs = [.ref r] ∧ H r = some (.dK kvs) ∧ valV kvs (Sum.inr ("bag" : Str)) = some (.ref b) ∧ H b = some (.lst xs) ∧ InD S H ∧ DpAll K (offS S H) xs (es.map enD) ∧ es.length ≤ 100 ∧
  ∀ H' v, Same H H' → Dp K (offS S H') v (.tuple ((lineB es).map enD)) → Q v H'
section
variable {P : Program} {w : World} {K : PySem.W.Frag} {mg : Str → Option Value} {base : Heap}
theorem ok_bagline (D : DefAt K mg "_law_line" s_law_line ["row"]) (T0 : Txt K mg) : CalX P w K mg base CX0 1 "_law_line" ["row"] (spBagLine K) := by
  refine D.ok sc_law_line (fun vs H Q E h => ?_) (fun f cdv A outer s H vs Q E hr h => ?_)
  · obtain ⟨r, b, kvs, xs, es, S, rfl, _⟩ := h
    rfl
  obtain ⟨r, b, kvs, xs, es, S, rfl, hrr, hbag, hb, hin, hxs, hel, q⟩ := h
  have hu := hu_of hr
  refine ⟨_, (pss_cons (ps_set (i := 1) sc_law_line.nd rfl (.inr rfl) (pe_dget hu (pv 0) pe_str (fun _ _ => rfl))) 
    (pss_cons (ps_set (i := 3) sc_law_line.nd rfl (.inl rfl) (pe_callB (cr_sortedPI hr.units) (by rfl) T0.sorted (by decide +kernel) (pa_cons (pe_lc (own := [("k", 2)]) (g := gName 2) (tt := tYes) (by rfl) sc_law_line.nd (pi_range1 (by rfl) T0.range (pa_cons (pe_callB call_len_seq (by rfl) T0.len PySem.boot_len (pa_cons (pv 1) pa_nil)) pa_nil)) (blkOk_by (own := [("k", 2)]) (N := N_law_line) (sc := defScope s_law_line) (by decide +kernel)) (fun _ _ _ _ _ => pg_name (i := 2) sc_law_line.nd rfl (Or.inl rfl)) (fun _ _ _ _ _ => pts_nil) (fun _ _ _ _ _ => by exact (pe_tup (pa_cons (pe_ix (show IxR _ (rIxT K) from ix_tup) (pe_ix (show IxR _ (rIxL K) from ix_list) (pv 1) (pv 2) (fun _ _ => rfl)) pe_int (fun _ _ => rfl)) (pa_cons (pv 2) pa_nil))))) pa_nil))) 
    (pss_one (ps_ret (pe_callTy call_tuple_of (by rfl) T0.tuple PyProof.Rows.boot_tuple (pa_cons (pe_lc (own := [("found", 4)]) (g := gName 4) (tt := tYes) (by rfl) sc_law_line.nd (pi_list (pv 3)) (blkOk_by (own := [("found", 4)]) (N := N_law_line) (sc := defScope s_law_line) (by decide +kernel)) (fun _ _ _ _ _ => pg_name (i := 4) sc_law_line.nd rfl (Or.inl rfl)) (fun _ _ _ _ _ => pts_nil) (fun _ _ _ _ _ => by exact (pe_ix (show IxR _ (rIxL K) from ix_list) (pv 1) (pe_ix (show IxR _ (rIxT K) from ix_tup) (pv 4) pe_int (fun _ _ => rfl)) (fun _ _ => rfl)))) pa_nil)))))), ?_⟩
  have hsl := sizeLine_eq
  have hxl := dps_len hxs
  rw [List.length_map] at hxl
  refine ⟨_, rfl, r, _, rfl, (hbag ▸ DGet.k (k := Sum.inr ("bag" : Str)) hrr), ?_⟩
  refine ⟨_, rfl, b, xs, rfl, .inl (SqL.of hb), ((xs.length : Nat) : Int), congrArg (fun z => [V.int z]) (by omega), by omega, by omega, fun Dl hDl => lc_range (lo := 0) (n := xs.length) (fun i H' => Same H H' ∧ ∃ acc, H' Dl = some (.lst acc) ∧ acc.length = i ∧ ∀ j, j < i → ∃ t ra e, acc[j]? = some (.ref t) ∧ H' t = some (.tup [.ref ra, .int (j : Nat)]) ∧ es[j]? = some e ∧ SqT K H ra (e.1.map V.int)) ⟨same_new hDl, [], upd_same, rfl, fun j h => absurd h (Nat.not_lt_zero _)⟩ ?_ ?_⟩
  · rintro i H' hi ⟨sm, acc, hD, hal, hj⟩
    obtain ⟨x, hx⟩ : ∃ x, xs[i]? = some x := ⟨_, List.getElem?_eq_getElem hi⟩
    obtain ⟨e, be, rv, y1, rfl, y3, y4⟩ := dps_en (dps_same offS_same hxs) hx
    cases y4 with
    | @tup ra rxs _ hra hrx =>
    rw [dp_intsV _ _ hrx] at hra
    refine ⟨rfl, _, rfl, _, rfl, b, xs, _, _, rfl, rfl, SqL.of (sm _ _ hb), (by rw [Int.zero_add]; exact atI_nat hx), be, _, 0, _, rfl, rfl, same_sqt sm y3, atI_0 rfl, _, rfl, (by show 2 ≤ sizeLine; decide), fun p hp => ?_⟩
    rw [Int.zero_add]
    have sp : Same H' (upd H' p (.tup [.ref ra, .int (i : Nat)])) := same_new hp
    have hpD : p ≠ Dl := fun z => by rw [z, hD] at hp; exact nomatch hp
    refine ⟨acc, sp _ _ hD, small1000 (by omega), same_mut (sm.trans sp) hDl, acc ++ [.ref p], upd_same, by rw [List.length_append]; show acc.length + 1 = i + 1; omega, fun j hj2 => ?_⟩
    by_cases z : j = i
    · subst z
      exact ⟨p, ra, e, by rw [List.getElem?_append_right (by omega), hal, Nat.sub_self]; rfl, by rw [upd_ne hpD, upd_same], y1, hra⟩
    · obtain ⟨t, r', e', e1, e2, e3, e4⟩ := hj j (by omega)
      refine ⟨t, r', e', by rw [List.getElem?_append_left (by omega)]; exact e1, ?_, e3, e4⟩
      have htD : t ≠ Dl := fun z => by
        rw [z, hD] at e2
        injection e2 with e2
        cases e2
      rw [upd_ne htD]
      exact sp _ _ e2
  · rintro H1 ⟨sm, acc, hD, hal, hj⟩
    obtain ⟨rks, hrks⟩ : ∃ rks, rks = es.map (fun e : En => e.1) := ⟨_, rfl⟩
    have hk : ∀ x ∈ acc, ∃ (j : Nat) (t ra : Addr) (e : En), j < xs.length ∧ x = .ref t ∧ H1 t = some (.tup [.ref ra, .int (j : Nat)]) ∧ es[j]? = some e ∧ SqT K H ra (e.1.map V.int) ∧ kAt H1 rks x = (e.1, ((j : Nat) : Int)) := fun x hx2 => by
      obtain ⟨j, hj2⟩ := List.mem_iff_getElem?.mp hx2
      have hjl := (List.getElem?_eq_some_iff.mp hj2).1
      obtain ⟨t, ra, e, e1, e2, e3, e4⟩ := hj j (by omega)
      rw [hj2] at e1
      obtain rfl := Option.some.inj e1
      exact ⟨j, t, ra, e, by omega, rfl, e2, e3, e4, by rw [kAt_of e2, hrks, List.getD_eq_getElem?_getD, List.getElem?_map, e3]; rfl⟩
    refine ⟨Dl, acc, kAt H1 rks, rfl, SqL.of hD, fun x hx2 => ?_, fun ys2 p hs hp hpn => ?_⟩
    · obtain ⟨j, t, ra, e, hj2, rfl, e2, e3, e4, e5⟩ := hk x hx2
      refine ⟨t, ra, rfl, by rw [e5]; exact e2, ?_⟩
      rw [e5]
      exact same_sqt sm e4
    have sm2 : Same H1 (upd H1 p (.lst ys2)) := same_new hpn
    have hp2 : (upd H1 p (.lst ys2)) p = some (.lst ys2) := upd_same
    revert sm2 hp2
    generalize upd H1 p (.lst ys2) = H2
    intro sm2 hp2
    have hyl2 : ys2.length = xs.length := by rw [hp.length_eq]; exact hal
    obtain ⟨tf, htf⟩ : ∃ tf : V → Tr, tf = fun y => ((kAt H1 rks y).1, (kAt H1 rks y).2, (es.getD (kAt H1 rks y).2.toNat ([], 0)).2) := ⟨_, rfl⟩
    have hline : (ys2.map tf).map en = lineB es := by
      refine tg_line ?_ ?_
      · refine (hp.map _).trans ?_
        have e : acc.map tf = tg es := by
          unfold tg
          refine List.ext_getElem (by rw [List.length_map, List.length_map, List.length_zipIdx]; omega) fun i h1 h2 => ?_
          rw [List.length_map] at h1
          rw [List.getElem_map, List.getElem_map, List.getElem_zipIdx]
          obtain ⟨t, ra, e, e1, e2, e3, e4⟩ := hj i (by omega)
          have e5 : acc[i] = .ref t := by
            rw [List.getElem?_eq_getElem h1] at e1
            exact Option.some.inj e1
          have e6 : es[i]'(by omega) = e := (List.getElem?_eq_some_iff.mp e3).2
          rw [e5, e6, htf]
          show ((kAt H1 rks (.ref t)).1, (kAt H1 rks (.ref t)).2, _) = _
          rw [kAt_of e2, hrks, List.getD_eq_getElem?_getD, List.getElem?_map, e3]
          show (e.1, ((i : Nat) : Int), (es.getD ((i : Nat) : Int).toNat ([], 0)).2) = _
          rw [Int.toNat_natCast, List.getD_eq_getElem?_getD, e3, Nat.zero_add]
          rfl
        rw [e]
      · rw [List.pairwise_map, htf]
        exact hs
    refine ⟨_, rfl, p, rfl, ⟨_, SqL.of hp2⟩, fun D2 hD2 => lc_list (K := K) (a := p) (xs := ys2) (fun i H' => Same H2 H' ∧ ∃ acc2, H' D2 = some (.lst acc2) ∧ DpAll K (offS S H) acc2 ((ys2.take i).map fun y => enD (en (tf y)))) ⟨same_new hD2, [], upd_same, .nil⟩ (fun i H' _ ⟨s3, _⟩ => SqL.of (s3 _ _ hp2)) ?_ ?_⟩
    · rintro i y H' hi ⟨s3, acc2, hA, hd⟩
      have hil := (List.getElem?_eq_some_iff.mp hi).1
      obtain ⟨j, t, ra, e, hj2, rfl, e2, e3, e4, e5⟩ := hk y (hp.mem_iff.mp (List.mem_of_getElem? hi))
      have e2' := s3 _ _ (sm2 _ _ e2)
      obtain ⟨xj, hxj⟩ : ∃ xj, xs[j]? = some xj := ⟨_, List.getElem?_eq_getElem (by omega)⟩
      obtain ⟨d, hd1, hd2⟩ := dps_at hxs hxj
      rw [List.getElem?_map, e3] at hd1
      obtain rfl := Option.some.inj hd1
      have hlen2 := dps_len hd
      rw [List.length_map, List.length_take] at hlen2
      have sA := sm.trans (sm2.trans s3)
      refine ⟨rfl, _, rfl, _, rfl, t, _, 1, _, rfl, rfl, SqT.of e2', atI_1 rfl, b, xs, _, _, rfl, rfl, SqL.of (sA _ _ hb), atI_nat hxj, acc2, hA, small1000 (by omega), same_mut s3 hD2, acc2 ++ [xj], upd_same, ?_⟩
      rw [List.take_add_one, hi, List.map_append]
      refine dps_app hd (.cons ?_ .nil)
      have : enD (en (tf (.ref t))) = enD e := by
        rw [htf]
        show enD ((kAt H1 rks (.ref t)).1, (es.getD (kAt H1 rks (.ref t)).2.toNat ([], 0)).2) = _
        rw [e5]
        show enD (e.1, (es.getD ((j : Nat) : Int).toNat ([], 0)).2) = _
        rw [Int.toNat_natCast, List.getD_eq_getElem?_getD, e3]
        rfl
      show Dp K (offS S H) xj (enD (en (tf (.ref t))))
      rw [this]
      exact hd2
    · rintro H3 ⟨s3, acc2, hA, hd⟩
      rw [List.take_length] at hd
      refine ⟨D2, acc2, rfl, .inl ⟨SqL.of hA, fun a ha => ?_⟩⟩
      have s4 := same_new (o := .tup acc2) ha
      have sA := sm.trans (sm2.trans (s3.trans s4))
      refine q _ _ sA (.tup (sqt_offS upd_same (hin.new ((sm.trans (sm2.trans s3)).free ha))) ?_)
      rw [← hline, List.map_map, List.map_map]
      exact dps_same (GoD.of (S := S) sA) hd
end
end K65
set_option Elab.async false
set_option linter.all false
set_option maxRecDepth 100000
set_option maxHeartbeats 8000000
namespace K65
open PySem PySem.Spec PyProof.Rows L2 Dt
/-! ### _law_due -/
theorem ad_in {T u v : Dt} {q p : Ad} (hu : sub T q = some u) (hv : sub T p = some v) : (T.idx q ≤ T.idx p ∧ T.idx p < T.idx q + u.nodes) ↔ q <+: p := by
  obtain ⟨A, B, e, hl, oA, oB⟩ := block T q u hu
  have hm : ((ad u).map (q ++ ·)).length = u.nodes := by rw [List.length_map, ad_len]
  have hp := ad_at hv
  generalize T.idx p = i at hp
  rw [e] at hp
  by_cases c : i < A.length
  · rw [List.getElem?_append_left c] at hp
    have := oA p (List.mem_of_getElem? hp)
    exact ⟨fun h => by omega, fun h => absurd h this⟩
  · rw [List.getElem?_append_right (by omega)] at hp
    by_cases c2 : i - A.length < ((ad u).map (q ++ ·)).length
    · rw [List.getElem?_append_left c2, List.getElem?_map] at hp
      obtain ⟨p', _, rfl⟩ := Option.map_eq_some_iff.mp hp
      exact ⟨fun _ => ⟨p', rfl⟩, fun _ => ⟨by omega, by omega⟩⟩
    · rw [List.getElem?_append_right (by omega)] at hp
      have := oB p (List.mem_of_getElem? hp)
      exact ⟨fun h => by omega, fun h => absurd h this⟩
/-- what stands in a pair of event and packet -/
def GonG (T : Dt) : Evt × Gone → Prop
  | (.psh n i rs, _) => EvG T (.psh n i rs)
  | (.dep, some (n, i, rs)) => ∃ p, (lv T)[i]? = some p
  | (.dep, none) => True
theorem run_gong {T : Dt} {L L' : Lns} {es : List (Evt × Gone)} (r : Run T L es L') : ∀ x ∈ es, GonG T x := by
  induction r with
  | nil => exact fun x h => nomatch h
  | cons s r ih =>
    intro x hx
    rcases List.mem_cons.mp hx with rfl | hx
    · cases s with
      | dep0 _ => trivial
      | dep _ h => exact ⟨_, h⟩
      | psh h1 h2 h3 h4 h5 h6 => exact ⟨_, h1, h2, h3, h4, h5⟩
    · exact ih x hx
theorem gonesT_app (T : Dt) (a b : List (Evt × Gone)) : gonesT T (a ++ b) = gonesT T a ++ gonesT T b := by
  unfold gonesT
  rw [List.flatMap_append]
theorem gonesT_at {T : Dt} {ps : List (Evt × Gone)} {i : Nat} {e : Evt × Gone} {d : PyData} (he : ps[i]? = some e) (hd : goneT T e = [d]) : (gonesT T ps)[(gonesT T (ps.take i)).length]? = some d := by
  have h1 : ps = ps.take i ++ e :: ps.drop (i + 1) := by
    have hi := (List.getElem?_eq_some_iff.mp he).1
    have e2 : ps.drop i = ps[i] :: ps.drop (i + 1) := List.drop_eq_getElem_cons hi
    rw [List.getElem?_eq_getElem hi] at he
    rw [Option.some.inj he] at e2
    rw [← e2, List.take_append_drop]
  have h2 : gonesT T ps = gonesT T (ps.take i) ++ (d :: gonesT T (ps.drop (i + 1))) := by
    conv => lhs; rw [h1]
    rw [gonesT_app]
    show _ ++ (goneT T e ++ _) = _
    rw [hd]
    rfl
  rw [h2, List.getElem?_append_right (Nat.le_refl _), Nat.sub_self]
  rfl
def spDue (K : PySem.W.Frag) : Sp := fun vs H Q _ => ∃ (sp a g : Addr) (S : List Addr) (T u : Dt) (q : Ad) (RB : List (Addr × Addr)) (ps : List (Evt × Gone)) (gs : List V), vs = [.ref sp, .ref a, .ref g, .int (T.idx q : Nat)] ∧ InD S H ∧ RwE K H sp T RB ∧ Dp K (offS S H) (.ref a) (.tuple (evDs ps)) ∧ H g = some (.lst gs) ∧ DpAll K (offS S H) gs (gonesT T ps) ∧ (∀ x ∈ ps, GonG T x) ∧ ps.length ≤ 70 ∧ sub T q = some u ∧ T.ht < 20 ∧
  ∀ H' r, Same H H' → H r = none → Dp K (offS S H') (.ref r) (.tuple (evDs (cutEs T u q ps))) → Q (.ref r) H'
section
variable {P : Program} {w : World} {K : PySem.W.Frag} {mg : Str → Option Value} {base : Heap}
theorem ok_due (D : DefAt K mg "_law_due" s_law_due ["spots", "story", "gone", "spot"]) (T0 : Txt K mg) : CalX P w K mg base CX0 1 "_law_due" ["spots", "story", "gone", "spot"] (spDue K) := by
  refine D.ok sc_law_due (fun vs H Q E h => ?_) (fun f cdv A outer s H vs Q E hr h => ?_)
  · obtain ⟨sp, a, g, S, T, u, q, RB, ps, gs, rfl, _⟩ := h
    rfl
  obtain ⟨sp, a, g, S, T, u, q, RB, ps, gs, rfl, hin, hrw, hA, hg, hgs, hgg, hpl, hu', hht, Qk⟩ := h
  have hu := hu_of hr
  refine ⟨_, (pss_cons (ps_set (i := 4) sc_law_due.nd rfl (.inl rfl) (pe_ix ix_list (pv 0) (pv 3) (fun _ _ => rfl))) 
    (pss_cons (ps_set (i := 5) sc_law_due.nd rfl (.inl rfl) (pe_lst pa_nil)) 
    (pss_cons (ps_set (i := 6) sc_law_due.nd rfl (.inl rfl) pe_int) 
    (pss_cons (ps_for PassesOwn.never rfl (pi_tup (pv 1)) (pg_name (i := 7) sc_law_due.nd rfl (Or.inl rfl)) 
      (pss_one (ps_if (pt_cmpR op_eq (pe_ix ix_tup (pv 7) pe_int (fun _ _ => rfl)) pe_str (nomark _)) 
        (pss_one (ps_if (PW.pt (pw_and (pt_cmpR op_le (pe_dget hu (pv 4) pe_str (fun _ _ => rfl)) (pe_ix ix_tup (pv 7) pe_int (fun _ _ => rfl)) (nomark _)) (pw_and1 (pt_cmpR op_lt (pe_ix ix_tup (pv 7) pe_int (fun _ _ => rfl)) (pe_dget hu (pv 4) pe_str (fun _ _ => rfl)) (nomark _))))) 
          (pss_one (ps_expr (pe_bm PySem.F.plainAttrs_list PySem.F.slot_list_append PySem.F.type_list_append mt_append (pv 5) (pa_cons (pe_tup (pa_cons pe_str (pa_cons (pe_ix ix_tup (pv 7) pe_int (fun _ _ => rfl)) (pa_cons (pe_op op_sub (pe_ix ix_tup (pv 7) pe_int (fun _ _ => rfl)) (pe_dget hu (pv 4) pe_str (fun _ _ => rfl))) (pa_cons (pe_slice sl_tupA (pe_ix ix_tup (pv 7) pe_int (fun _ _ => rfl)) (po_some (pe_dget hu (pv 4) pe_str (fun _ _ => rfl))) po_none) pa_nil))))) pa_nil)))) pss_nil)) 
        (pss_cons (ps_if (PW.pt (pw_and (pt_cmpR op_le (pv 3) (pe_ix ix_tup (pe_ix ix_list (pv 2) (pv 6) (fun _ _ => rfl)) pe_int (fun _ _ => rfl)) (nomark _)) (pw_and1 (pt_cmpR op_lt (pe_ix ix_tup (pe_ix ix_list (pv 2) (pv 6) (fun _ _ => rfl)) pe_int (fun _ _ => rfl)) (pe_dget hu (pv 4) pe_str (fun _ _ => rfl)) (nomark _))))) 
          (pss_one (ps_expr (pe_bm PySem.F.plainAttrs_list PySem.F.slot_list_append PySem.F.type_list_append mt_append (pv 5) (pa_cons (pe_tup (pa_cons pe_str pa_nil)) pa_nil)))) pss_nil) 
        (pss_one (ps_set (i := 6) sc_law_due.nd rfl (.inl rfl) (pe_op op_add (pv 6) pe_int))))))) 
    (pss_one (ps_ret (pe_callTy call_tuple_of (by rfl) T0.tuple PyProof.Rows.boot_tuple (pa_cons (pv 5) pa_nil)))))))), ?_⟩
  have hsl := sizeLine_eq
  obtain ⟨r, b, kk, fv, z1, z2, z3, z4, z5⟩ := hrw.at hu'
  refine ⟨_, rfl, _, rfl, sp, _, _, _, rfl, rfl, SqL.of hrw.ln, atI_nat z2, ?_⟩
  refine ⟨(by show 0 ≤ sizeLine; decide), fun dl hdl => ?_⟩
  have s1 : Same H (upd H dl (.lst [])) := same_new hdl
  have hd1 : (upd H dl (.lst [])) dl = some (.lst []) := upd_same
  revert s1 hd1
  generalize upd H dl (.lst []) = H1
  intro s1 hd1
  have ndS : dl ∉ S := hin.new hdl
  have onE : ∀ {H'}, GoS [dl] H1 H' → Same H H' := fun gg y o e => gg.at (s1 _ _ e) fun z => by
    rw [List.mem_singleton.mp z, hdl] at e
    exact nomatch e
  have mD : ∀ y ∈ [dl], y ∈ dl :: S := fun y hy => by rw [List.mem_singleton.mp hy]; exact List.mem_cons_self ..
  have off2 : ∀ {H'}, GoS [dl] H1 H' → Same (offS S H) (offS (dl :: S) H') := fun {H'} gg y o e => by
    obtain ⟨e1, e2⟩ := offS_some e
    rw [offS_ne (fun z => by
      rcases List.mem_cons.mp z with z | z
      · rw [z, hdl] at e2
        exact nomatch e2
      · exact e1 z)]
    exact onE gg _ _ e2
  have dIn : ∀ {H'} {fs : List V}, GoS [dl] H1 H' → H' dl = some (.lst fs) → InD (dl :: S) H' := fun {H' fs} gg hd y hy => by
    rcases List.mem_cons.mp hy with rfl | hy
    · rw [hd]; exact fun z => nomatch z
    · exact same_al (onE gg) (hin y hy)
  cases hA with
  | @tup a' evs _ heb hevs =>
  have hevl := dps_len hevs
  unfold evDs at hevl hevs
  rw [List.length_map] at hevl
  have hgl := gonesT_len T ps
  have hgsl := dps_len hgs
  refine ⟨_, rfl, a, rfl, ⟨_, same_sqt (Same.trans offS_same s1) heb⟩, ?_⟩
  refine for_tup (K := K) (a := a) (xs := evs) (fun i σ H' => ∃ (o7 : Option V) (fs : List V), σ = [some (.ref sp), some (.ref a), some (.ref g), some (.int (T.idx q : Nat)), some (.ref r), some (.ref dl), some (.int ((gonesT T (ps.take i)).length : Nat)), o7] ∧ GoS [dl] H1 H' ∧ H' dl = some (.lst fs) ∧ DpAll K (offS (dl :: S) H') fs (evDs (cutEs T u q (ps.take i))))
    ⟨_, [], rfl, GoS.refl, hd1, .nil⟩ (fun i σ H' _ ⟨_, _, _, gg, _⟩ => same_sqt (Same.trans offS_same (onE gg)) heb) ?_ ?_
  · rintro i x σ H4 hx ⟨o7, fs, rfl, g4, hd4, hfs⟩
    have hil := (List.getElem?_eq_some_iff.mp hx).1
    rw [hevl] at hil
    have etk : ps.take (i + 1) = ps.take i ++ [ps[i]] := List.take_succ_eq_append_getElem hil
    have hpi : ps[i]? = some ps[i] := List.getElem?_eq_getElem hil
    obtain ⟨dx0, hx1, hx2⟩ := dps_at hevs hx
    rw [List.getElem?_map, hpi] at hx1
    obtain rfl := Option.some.inj hx1
    generalize ps[i] = e at etk hpi hx2
    have hge := hgg e (List.mem_of_getElem? hpi)
    have ecut : cutEs T u q (ps.take (i + 1)) = cutEs T u q (ps.take i) ++ cutE T u q e := by
      rw [etk]
      unfold cutEs
      rw [List.flatMap_append]
      simp
    have egon : gonesT T (ps.take (i + 1)) = gonesT T (ps.take i) ++ goneT T e := by
      rw [etk, gonesT_app]
      unfold gonesT
      simp
    have hfl := dps_len hfs
    have hcl := cutEs_le T u q (ps.take i)
    unfold evDs at hfl
    rw [List.length_map] at hfl
    rw [List.length_take] at hcl
    have z34 := onE g4 _ _ z3
    have in4 := dIn g4 hd4
    obtain ⟨e, o⟩ := e
    cases e with
    | psh n qi rs =>
      obtain ⟨p, hp, hrsl, hrk, n0, n1⟩ : EvG T (.psh n qi rs) := hge
      have egon' : gonesT T (ps.take (i + 1)) = gonesT T (ps.take i) := by rw [egon]; exact List.append_nil _
      have hx4' : Dp K (offS S H) x (.tuple [.str "push", .int n, .int (qi : Nat), .tuple (rs.map intsD)]) := hx2
      cases hx4' with
      | @tup xb xs2 _ hxb hxs =>
      cases hxs with
      | @cons v1 _ _ _ e1 hxs =>
      cases hxs with
      | @cons v2 _ _ _ e2 hxs =>
      cases hxs with
      | @cons v3 _ _ _ e3 hxs =>
      cases hxs with
      | @cons v4 _ _ _ e4 hxs =>
      cases hxs
      cases e1
      cases e2
      cases e3
      have e4o := dp_same (off2 g4) e4
      cases e4o with
      | @tup b4 x4 _ hb4 hx4s =>
      have hxb4 := same_sqt (Same.trans offS_same (onE g4)) hxb
      have out : ¬ (T.low q ≤ qi ∧ qi < T.low q + u.lf) → ∃ (o7' : Option V) (fs' : List V), ([some (.ref sp), some (.ref a), some (.ref g), some (.int (T.idx q : Nat)), some (.ref r), some (.ref dl), some (.int ((gonesT T (ps.take i)).length : Nat)), some (.ref xb)] : L2.St) = [some (.ref sp), some (.ref a), some (.ref g), some (.int (T.idx q : Nat)), some (.ref r), some (.ref dl), some (.int ((gonesT T (ps.take (i + 1))).length : Nat)), o7'] ∧ GoS [dl] H1 H4 ∧ H4 dl = some (.lst fs') ∧ DpAll K (offS (dl :: S) H4) fs' (evDs (cutEs T u q (ps.take (i + 1)))) := fun no => by
        refine ⟨_, fs, by rw [egon'], g4, hd4, ?_⟩
        rw [ecut, show cutE T u q (.psh n qi rs, o) = [] from if_neg no, List.append_nil]
        exact hfs
      refine ⟨_, rfl, xb, _, 0, _, rfl, rfl, hxb4, atI_0 rfl, rfl, _, rfl, ite2 (fun _ => ?_) (fun c => absurd (decide_eq_true rfl) c)⟩
      refine ⟨_, rfl, r, _, rfl, (r9_low T q u fv kk b ▸ DGet.k (k := Sum.inr ("low" : Str)) z34), _, rfl, xb, _, 2, _, rfl, rfl, hxb4, atI_2 rfl, _, _, rfl, rfl, _, rfl, ite2 (fun c1 => ?_) (fun c1 => ?_)⟩
      rotate_left
      · have c1' : ¬ ((T.low q : Nat) : Int) ≤ (qi : Nat) := fun z => c1 (decide_eq_true z)
        exact out fun z => c1' (by omega)
      have c1' : ((T.low q : Nat) : Int) ≤ (qi : Nat) := of_decide_eq_true c1
      refine ⟨_, rfl, xb, _, 2, _, rfl, rfl, hxb4, atI_2 rfl, _, rfl, r, _, rfl, (r9_high T q u fv kk b ▸ DGet.k (k := Sum.inr ("high" : Str)) z34), _, _, rfl, rfl, _, rfl, ite2 (fun c2 => ?_) (fun c2 => ?_)⟩
      rotate_left
      · have c2' : ¬ ((qi : Nat) : Int) < ((T.low q + u.lf : Nat) : Int) := fun z => c2 (decide_eq_true z)
        exact out fun z => c2' (by omega)
      have c2' : ((qi : Nat) : Int) < ((T.low q + u.lf : Nat) : Int) := of_decide_eq_true c2
      have yes : T.low q ≤ qi ∧ qi < T.low q + u.lf := by omega
      refine ⟨_, rfl, .inl ⟨rfl, _, SqL.of hd4⟩, _, rfl, xb, _, 1, _, rfl, rfl, hxb4, atI_1 rfl, _, rfl, xb, _, 2, _, rfl, rfl, hxb4, atI_2 rfl, _, rfl, r, _, rfl, (r9_low T q u fv kk b ▸ DGet.k (k := Sum.inr ("low" : Str)) z34), _, _, rfl, rfl, _, rfl, xb, _, 3, _, rfl, rfl, hxb4, atI_3 rfl, _, rfl, r, _, rfl, (r9_depth T q u fv kk b ▸ DGet.k (k := Sum.inr ("depth" : Str)) z34), _, rfl, ?_⟩
      refine noPart_t ?_
      refine rSlA_off in4 hb4 fun sl H6 s6 hsl => ?_
      rw [cut_drop] at hsl
      refine ⟨(by show 4 ≤ sizeLine; decide), fun tp htp => ?_⟩
      have s7 := same_new (o := .tup [.str "push", .int n, .int ((qi : Nat) - (T.low q : Nat)), .ref sl]) htp
      have htp7 : (upd H6 tp (.tup [.str "push", .int n, .int ((qi : Nat) - (T.low q : Nat)), .ref sl])) tp = some (.tup [.str "push", .int n, .int ((qi : Nat) - (T.low q : Nat)), .ref sl]) := upd_same
      have in6 : InD (dl :: S) H6 := in4.same s6
      have ntp := in6.new htp
      revert s7 htp7
      generalize upd H6 tp (.tup [.str "push", .int n, .int ((qi : Nat) - (T.low q : Nat)), .ref sl]) = H7
      intro s7 htp7
      have s57 := s6.trans s7
      have hd7 := s57 _ _ hd4
      refine ⟨dl, _, _, rfl, rfl, hd7, small1000 (by omega), ?_⟩
      refine ⟨_, fs ++ [.ref tp], by rw [egon']; rfl, (g4.trans (GoS.of s57)).upd (List.mem_singleton.mpr rfl), upd_same, ?_⟩
      rw [ecut]
      unfold evDs
      rw [List.map_append, show cutE T u q (.psh n qi rs, o) = [_] from if_pos yes]
      have gD : GoD (dl :: S) H7 (upd H7 dl (.lst (fs ++ [.ref tp]))) := GoD.refl.upd (List.mem_cons_self ..)
      refine dps_app (dps_same ((GoD.of s57).trans gD) hfs) (.cons ?_ .nil)
      refine dp_same gD (.tup (sqt_offS htp7 ntp) (.cons (.str _) (.cons (.int n) (.cons ?_ (.cons ?_ .nil)))))
      · have : ((qi : Nat) : Int) - (T.low q : Nat) = ((qi - T.low q : Nat) : Int) := by omega
        rw [this]
        exact .int _
      · rw [List.map_drop]
        exact .tup (same_sqt (GoD.of s7) hsl) (dps_same (GoD.of s57) (dps_drop q.length hx4s))
    | dep =>
      have hx4' : Dp K (offS S H) x (.tuple [.str "depart"]) := hx2
      cases hx4' with
      | @tup xb xs2 _ hxb hxs =>
      cases hxs with
      | @cons v1 _ _ _ e1 hxs =>
      cases hxs
      cases e1
      have hxb4 := same_sqt (Same.trans offS_same (onE g4)) hxb
      have hg4 := onE g4 _ _ hg
      obtain ⟨dv, m, hgd⟩ : ∃ (dv : PyData) (m : Int), goneT T (.dep, o) = [.tuple [dv, .int m]] ∧ ((T.idx q : Nat) ≤ m ∧ m < (T.idx q + u.nodes : Nat) → cutE T u q (.dep, o) = [(.dep, (cutE T u q (.dep, o)).head?.bind (·.2))]) ∧ (¬ ((T.idx q : Nat) ≤ m ∧ m < (T.idx q + u.nodes : Nat)) → cutE T u q (.dep, o) = []) := by
        cases o with
        | none => exact ⟨_, _, rfl, fun h => by omega, fun _ => rfl⟩
        | some y =>
          obtain ⟨n, qi, rs⟩ := y
          obtain ⟨p, hp⟩ : ∃ p, (lv T)[qi]? = some p := hge
          obtain ⟨v, hv⟩ := ad_sub (lv_ad (List.mem_of_getElem? hp))
          have h1 := lv_in hu' hp
          have h2 := ad_in hu' hv
          have e : (lv T).getD qi [] = p := by rw [List.getD_eq_getElem?_getD, hp]; rfl
          refine ⟨.int n, (T.idx p : Nat), by show [PyData.tuple [_, .int (T.idx ((lv T).getD qi []) : Nat)]] = _; rw [e], fun h => ?_, fun h => ?_⟩
          · have yes : T.low q ≤ qi ∧ qi < T.low q + u.lf := h1.mpr (h2.mp (by omega))
            rw [show cutE T u q (.dep, some (n, qi, rs)) = [_] from if_pos yes]
            rfl
          · exact if_neg fun y => h (by have := h2.mpr (h1.mp y); omega)
      obtain ⟨hg1, hyes, hno⟩ := hgd
      have egl : (gonesT T (ps.take (i + 1))).length = (gonesT T (ps.take i)).length + 1 := by rw [egon, hg1, List.length_append]; rfl
      have hat := gonesT_at hpi hg1
      obtain ⟨gv, hgv⟩ : ∃ gv, gs[(gonesT T (ps.take i)).length]? = some gv := ⟨_, List.getElem?_eq_getElem (by
        have := (List.getElem?_eq_some_iff.mp hat).1
        omega)⟩
      obtain ⟨d, hd1', hd2⟩ := dps_at hgs hgv
      rw [hat] at hd1'
      obtain rfl := Option.some.inj hd1'
      cases hd2 with
      | @tup gt gx _ hgt hgx =>
      cases hgx with
      | @cons g1 _ _ _ f1 hgx =>
      cases hgx with
      | @cons g2 _ _ _ f2 hgx =>
      cases hgx
      cases f2
      have hgt4 := same_sqt (Same.trans offS_same (onE g4)) hgt
      have fin : ∀ (H' : Hp) (fs' : List V), GoS [dl] H1 H' → H' dl = some (.lst fs') → DpAll K (offS (dl :: S) H') fs' (evDs (cutEs T u q (ps.take (i + 1)))) → ∃ (o7' : Option V) (fs'' : List V), ([some (.ref sp), some (.ref a), some (.ref g), some (.int (T.idx q : Nat)), some (.ref r), some (.ref dl), some (.int (((gonesT T (ps.take i)).length : Nat) + 1)), some (.ref xb)] : L2.St) = [some (.ref sp), some (.ref a), some (.ref g), some (.int (T.idx q : Nat)), some (.ref r), some (.ref dl), some (.int ((gonesT T (ps.take (i + 1))).length : Nat)), o7'] ∧ GoS [dl] H1 H' ∧ H' dl = some (.lst fs'') ∧ DpAll K (offS (dl :: S) H') fs'' (evDs (cutEs T u q (ps.take (i + 1)))) := fun H' fs' gg hd hf => ⟨_, fs', by rw [egl]; rfl, gg, hd, hf⟩
      refine ⟨_, rfl, xb, _, 0, _, rfl, rfl, hxb4, atI_0 rfl, rfl, _, rfl, ite2 (fun c => absurd (of_decide_eq_true c) (by decide +kernel)) (fun _ => ?_)⟩
      refine ⟨_, rfl, _, rfl, _, rfl, g, gs, _, _, rfl, rfl, SqL.of hg4, atI_nat hgv, gt, _, 1, _, rfl, rfl, hgt4, atI_1 rfl, _, _, rfl, rfl, _, rfl, ite2 (fun c1 => ?_) (fun c1 => ?_)⟩
      rotate_left
      · have c1' : ¬ ((T.idx q : Nat) : Int) ≤ m := fun z => c1 (decide_eq_true z)
        refine ⟨_, rfl, _, _, rfl, rfl, fin H4 fs g4 hd4 ?_⟩
        rw [ecut, hno fun z => c1' z.1, List.append_nil]
        exact hfs
      have c1' : ((T.idx q : Nat) : Int) ≤ m := of_decide_eq_true c1
      refine ⟨_, rfl, _, rfl, g, gs, _, _, rfl, rfl, SqL.of hg4, atI_nat hgv, gt, _, 1, _, rfl, rfl, hgt4, atI_1 rfl, _, rfl, r, _, rfl, (r9_end T q u fv kk b ▸ DGet.k (k := Sum.inr ("end" : Str)) z34), _, _, rfl, rfl, _, rfl, ite2 (fun c2 => ?_) (fun c2 => ?_)⟩
      rotate_left
      · have c2' : ¬ m < ((T.idx q + u.nodes : Nat) : Int) := fun z => c2 (decide_eq_true z)
        refine ⟨_, rfl, _, _, rfl, rfl, fin H4 fs g4 hd4 ?_⟩
        rw [ecut, hno fun z => c2' z.2, List.append_nil]
        exact hfs
      have c2' : m < ((T.idx q + u.nodes : Nat) : Int) := of_decide_eq_true c2
      refine ⟨_, rfl, .inl ⟨rfl, _, SqL.of hd4⟩, (by show 1 ≤ sizeLine; decide), fun tp htp => ?_⟩
      have s7 := same_new (o := .tup [.str "depart"]) htp
      have ht7 := dpn (K := K) in4 htp (.cons (.str "depart") .nil)
      revert s7 ht7
      generalize upd H4 tp (.tup [.str "depart"]) = H7
      intro s7 ht7
      refine ⟨dl, _, _, rfl, rfl, s7 _ _ hd4, small1000 (by omega), ?_⟩
      refine ⟨_, rfl, _, _, rfl, rfl, fin _ (fs ++ [.ref tp]) ((g4.trans (GoS.of s7)).upd (List.mem_singleton.mpr rfl)) upd_same ?_⟩
      rw [ecut, hyes ⟨c1', c2'⟩]
      unfold evDs
      rw [List.map_append]
      have gD : GoD (dl :: S) H7 (upd H7 dl (.lst (fs ++ [.ref tp]))) := GoD.refl.upd (List.mem_cons_self ..)
      exact dps_app (dps_same ((GoD.of s7).trans gD) hfs) (.cons (dp_same gD ht7) .nil)
  · rintro σ H4 ⟨o7, fs, rfl, g4, hd4, hfs⟩
    rw [hevl, List.take_length] at hfs
    refine ⟨_, rfl, dl, _, rfl, .inl ⟨SqL.of hd4, fun tl htl => ?_⟩⟩
    have s5 : Same H4 (upd H4 tl (.tup fs)) := same_new htl
    have h5 := dpn (K := K) (dIn g4 hd4) htl hfs
    exact Qk _ tl ((onE g4).trans s5) ((onE g4).free htl) (dp_same (offS_sub fun y hy => List.mem_cons_of_mem _ hy) h5)
end
end K65
set_option Elab.async false
set_option linter.all false
set_option maxRecDepth 100000
set_option maxHeartbeats 4000000
namespace L2
open PySem PySem.Spec PyProof.Rows
/-! ### a def called by keywords alone -/
structure KwF (fd : FuncData) (ps ks : List Str) (g : {α : Type} → List α → List α) : Prop where
  to : ∀ (s : Shared) (ws : List Value), ws.length = ks.length → BindsTo s fd ⟨[], ks.zip ws⟩ (ps.zip (g ws))
  rel : ∀ {zs : List V} {ws : List Value}, Vals zs ws → Vals (g zs) (g ws)
structure KwAt (K : PySem.W.Frag) (mg : Str → Option Value) (x : Str) (ps ks : List Str) (g : {α : Type} → List α → List α) : Prop where
  ex : ∃ (f : Addr) (fd : FuncData), mg x = some (.ref f) ∧ LkF K f fd ∧ KwF fd ps ks g
def tCallKS (sp : Sp) (n : Nat) (gV : List V → List V) (E : St → XK) (tk : TA) : TE := fun σ H Q => tk σ H fun zs H2 => zs.length = n ∧ sp (gV zs) H2 Q (E σ)
section
variable {X : Cx} {CX : CXT} {j k : Nat} {ps ks : List Str} {sp : Sp} {E : St → XK} {x : Str} {p pos : Pos} {kws : List Keyword} {tk : TA} {g : {α : Type} → List α → List α}
theorem run_kw0 {f : Addr} {fd : FuncData} {pins : List (Addr × Obj)} {σ : St} {H : Hp} {s : Shared} {Q : VK} {ws : List Value} {zs : List V} (F : FnOk X.prog X.w X.K X.mg X.base CX k f fd ps sp) (hr : Room k X.A) (hb : KwF fd ps ks g) (hx : PassesAt CX X σ (E σ))
    (I : Inv X pins σ H s) (rz : Vals zs ws) (hl : zs.length = ks.length) (h : sp (g zs) H Q (E σ)) : wpAny (model X.prog X.w) X.A (call (.ref f) [] (ks.zip ws)) (EP X pins σ Q) X.xe s := by
  have r2 : Vals (g zs) (g ws) := hb.rel rz
  refine wpAny_call (codeAny_mono (F.run X.A X.stack s H ⟨[], ks.zip ws⟩ (g ws) (g zs) Q (E σ) hr I.env0 (hb.to s ws (rz.length.symm.trans hl)) r2 h) fun r s' hq => ?_)
  cases r with
  | error e => exact hx pins H s e s' I hq
  | ok fl =>
    cases fl with
    | ret u => exact I.after hq
    | next => exact False.elim hq
    | brk => exact False.elim hq
    | cont => exact False.elim hq
theorem pe_kw (c : CalX X.prog X.w X.K X.mg X.base CX k x ps sp) (D : KwAt X.K X.mg x ps ks g) (hr : Room j X.A) (hk : k ≤ j) (hg : Gl X x) (hx : ∀ σ, PassesAt CX X σ (E σ)) (hkw : PK X kws tk)
    (hdb : (x == ("__debug__" : Str)) = false := by decide) (hall : (backToKw pos (keywordEach kws X.env)).all (·.1.isSome) = true := by rfl) (hks : (backToKw pos (keywordEach kws X.env)).filterMap (·.1) = ks := by rfl)
    (hpl : ((backTo pos (starEach [] X.env)).any (·.1) || (backToKw pos (keywordEach kws X.env)).any (·.1.isNone)) = false := by rfl) :
    PE X (.Call (.Name x p) [] kws pos) (tCallKS sp ks.length g E tk) := by
  obtain ⟨f, fd, F, hm, kp, _, lk⟩ := c.ex
  obtain ⟨f', fd', hm', lk', kb⟩ := D.ex
  rw [hm] at hm'
  injection hm' with hm'
  injection hm' with hm'
  subst hm'
  obtain rfl := lk.inj lk'
  refine ⟨fun pins s σ H Q I h => ?_⟩
  refine wpAny_Call_Name_kw (ld_glob I hg hm ?_ hdb)
  refine PySem.W.callWith_KW0 (first := []) (h₀ := X.base) I.ok.mod.kin kp hall ?_ hpl
  refine thn (hkw.run pos pins s σ H _ I h) fun ws s2 ⟨zs, H2, I2, rz, hl, q2⟩ => ⟨I2.kIn, ?_⟩
  rw [hks]
  exact run_kw0 F (hr.mono hk) kb (hx σ) I2 rz hl q2
end
section
variable {X : Cx} {CX : CXT} {j k : Nat} {x : Str} {ps : List Str} {sp : Sp} {E : St → XK} {p pos : Pos} {e : Expr} {es : List Expr} {t : TA}
/-- a call whose error goes to a try of this def -/
theorem pe_cxS (c : CalX X.prog X.w X.K X.mg X.base CX k x ps sp) (hr : Room j X.A) (hk : k ≤ j) (hg : Gl X x) (hx : ∀ σ, PassesAt CX X σ (E σ)) (ha : PA X (e :: es) t)
    (hdb : (x == ("__debug__" : Str)) = false := by decide) (he : starEach (e :: es) X.env = (false, eval e X.env) :: starEach es X.env := by rfl) (hpl : (backTo pos (starEach es X.env)).any (·.1) = false := by rfl) :
    PE X (.Call (.Name x p) (e :: es) [] pos) (tCallS sp E t) := by
  obtain ⟨f, fd, F, hm, kp, b, _⟩ := c.ex
  exact pe_callS F (hr.mono hk) hg hm kp b hx ha hdb he hpl
end
/-! ### isinstance(e, C) of a caught error with a dict -/
def rIsX (K : PySem.W.Frag) (a : Addr) (cls : Value) (d : Option Addr) : List V → Hp → VK → Prop := fun xs H Q => ∃ (D dd : Addr) (fs : List (Str × V)) (c : V) (cv : Value) (b : Bool), cls = .ref D ∧ d = some dd ∧ ExcC K D ∧ xs = [.ref a, c] ∧ (∀ u, RelV c u → u = cv) ∧ PySem.W.kitOne K (.ref D) cv = some b ∧ H dd = some (.xd fs) ∧ Q (.bl b) H
theorem call_isX {X : Cx} {a : Addr} {oe : Obj} {cls : Value} {d : Option Addr} {pn : List (Addr × Obj)} (hz : Zc cls d oe) (hf : ∃ vs, oe.data = .fields vs) : CallR (X.suite a ((a, oe) :: pn)) (.builtin "isinstance") (rIsX X.K a cls d) := by
  intro pins s σ H xs us Q I r h
  obtain ⟨D, dd, fs, c, cv, b, rfl, rfl, C, rfl, hcv, e, ea, q⟩ := h
  cases r with
  | cons rx rr =>
    cases rr with
    | cons rt rr =>
      cases rr
      cases rx
      have ec := hcv _ rt
      subst ec
      obtain ⟨hget, _⟩ := I.pin (a, oe) (List.mem_append.mpr (.inl List.mem_cons_self))
      obtain ⟨vs, hd⟩ := hf
      have hx : ObjOk X.prog X.w H s.heap dd (.xd fs) := I.hok dd _ ea
      obtain ⟨mA, hns, hr⟩ := hx
      obtain ⟨od, ho, hl⟩ := lookIn_ns hns
      have J : PySem.W.InstAt s.heap a oe D (some od) := ⟨hget, hz.1, by unfold PySem.W.notCls; rw [hd] <;> rfl, by rw [hz.2]; exact ho⟩
      have hcl : (PySem.W.clsIn X.K D).isSome = true := by
        obtain ⟨cd, hc, _⟩ := PySem.W.any_some C.hd
        rw [hc]
        rfl
      exact PySem.W.kia_one (PySem.W.kitx_exc hcl C.hg C.hk C.hs C.ha C.hn C.ht C.hm) I.kIn J e (fun z => nomatch z) fun tk => ⟨.bl b, H, I.tok tk, rfl, q⟩
end L2
set_option Elab.async false
set_option linter.all false
set_option maxRecDepth 100000
set_option maxHeartbeats 8000000
namespace K65
open PySem PySem.Spec PyProof.Rows L2 Dt
def revL {α : Type} (l : List α) : List α := l.reverse
theorem revL_rel {zs : List V} {ws : List Value} (h : Vals zs ws) : Vals (revL zs) (revL ws) := by
  unfold revL
  induction h with
  | nil => exact .nil
  | cons r _ ih =>
    rw [List.reverse_cons, List.reverse_cons]
    exact ih.append (.cons r .nil)
def Refd (K : PySem.W.Frag) (H : Hp) (Q : VK) (z : Str) : Prop := ∀ r H', Same H H' → H r = none → H' r = some (.tup [.str "refused", .str z, .int (-1)]) → Q (.ref r) H'
/-- the except suite -/
def tSuite (U a : Addr) (cls : Value) (d : Option Addr) : TS := fun D σ H => ∃ (z : Str) (dd : Addr), cls = .ref U ∧ d = some dd ∧ σ[4]? = some (some (.ref a)) ∧ H dd = some (xdO z (-1)) ∧ ∀ r, H r = none → D.rt (.ref r) (upd H r (.tup [.str "refused", .str z, .int (-1)]))
theorem ask_err {K : PySem.W.Frag} {mg : Str → Option Value} {U fI : Addr} {H H1 : Hp} {Q : VK} {z : Str} {D : Ends} {σ : L2.St} (N : NUT K mg U fI) (hD : D.rt = Q) (hσ : σ.length = 5) (s1 : Same H H1) (q : Refd K H Q z) :
    Out U z H1 (WE (wAs1 K (.ref U) 4 (tSuite U) D) σ) := by
  intro d hd
  refine ⟨N.te, fun a0 ha0 => ⟨z, d, rfl, rfl, ?_, upd_same, fun r hr2 => ?_⟩⟩
  · rw [List.getElem?_set_self (by omega)]
  · show D.rt (.ref r) _
    rw [hD]
    have sd : Same H1 (upd H1 d (xdO z (-1))) := same_new hd
    exact q r _ (s1.trans (sd.trans (same_new hr2))) (s1.free (sd.free hr2)) upd_same
/-! ### _law_told -/
def spToldB (K : PySem.W.Frag) : Sp := fun vs H Q _ => ∃ (fv ev nv : V) (b : Bool) (t : Dt) (d : PyData) (o : Option Int), vs = [fv, ev, nv, .bl b] ∧ DtV K H fv t ∧ t.size ≤ 100000 ∧ Dp K H ev d ∧ (∀ ds, d = .tuple ds → ds.length ≤ 1000 ∧ ∀ e ∈ ds, EvOk e) ∧ NumV K H nv o ∧
  (t.good 1 = false → Refd K H Q "form") ∧
  (t.good 1 = true → t.ht ≤ 15 ∧ t.nodes ≤ 64 ∧ (evsOf t d = false → Refd K H Q "events") ∧
    (evsOf t d = true → belowB (t.nodes : Nat) o = false → Refd K H Q "node") ∧
    (evsOf t d = true → ∀ q u, o = some (t.idx q : Nat) → sub t q = some u → ∃ (es : List (Evt × Gone)) (L' : Lns), d = .tuple (evDs es) ∧ es.length ≤ 90 ∧ Run t (fun _ => []) es L' ∧
      ∀ H' r, Same H H' → H r = none → Dp K H' (.ref r) (.tuple (evDs (cutEs t u q es))) → Q (.ref r) H'))
section
variable {P : Program} {w : World} {K : PySem.W.Frag} {mg : Str → Option Value} {base : Heap} {C CS U fI : Addr}
theorem ok_told (D : DefAt K mg "_law_told" s_law_told ["figure", "story", "spot", "named"]) (T : Txt K mg) (N : NUT K mg U fI)
    (GBE : CalX P w K mg base (L2.CX P w) 26 "bough_events" ["form", "events", "node"] (spBE K U)) (KBE : KwAt K mg "bough_events" ["form", "events", "node"] ["node", "events", "form"] revL) :
    CalX P w K mg base CX0 27 "_law_told" ["figure", "story", "spot", "named"] (spToldB K) := by
  refine D.ok sc_law_told (fun vs H Q E h => ?_) (fun f cdv A outer s H vs Q E hr h => ?_)
  · obtain ⟨fv, ev, nv, b, t, d, o, rfl, _⟩ := h
    rfl
  obtain ⟨fv, ev, nv, b, t, d, o, rfl, hv, hz, he, hok, hn, q0, q1⟩ := h
  refine ⟨_, pss_one (ps_try_as2 (i := 4) rfl rfl sc_law_told.nd rfl rfl ⟨rfl, by decide, Or.inl N.gU⟩
    (fun W pn xe tk _ => (pss_cons (ps_if (pt_val (pv 3)) (pss_one (ps_ret (by exact (pe_kw GBE KBE hr (by decide) rfl (fun σ => passAt tk σ) (by exact (pk_cons (pv 2) (pk_cons (pv 1) (pk_cons (pv 0) pk_nil)))))))) pss_nil)
      (pss_one (ps_ret (by exact (pe_cxS GBE hr (by decide) rfl (fun σ => passAt tk σ) (by exact (pa_cons (pv 0) (pa_cons (pv 1) (pa_cons (pv 2) pa_nil))))))))))
    (fun a oe cls d pn hz hf => (pss_one (ps_conv (t' := tSuite U a cls d) (ps_ret (pe_tup (pa_cons pe_str (pa_cons (pe_xf N.xf N.nw hz hf (pv 4)) (pa_cons (pe_xf N.xf N.na hz hf (pv 4)) pa_nil))))) (by
      rintro D σ H ⟨z, dd, rfl, rfl, hs, hd, q⟩
      exact ⟨_, hs, rfl, rfl, dd, _, _, rfl, hd, rfl, _, hs, rfl, rfl, dd, _, _, rfl, hd, rfl, (by show 3 ≤ sizeLine; decide), q⟩))))), ?_⟩
  have toU : ∀ (z : Str) (H1 : Hp) (D : Ends) (σ : L2.St), D.rt = Q → σ.length = 5 → Same H H1 → Refd K H Q z → Out U z H1 (WE (wAs1 K (.ref U) 4 (tSuite U) D) σ) := fun z H1 D σ hD hl s1 r => ask_err N hD hl s1 r
  have main : ∀ (D : Ends) (σ : L2.St), D.rt = Q → σ.length = 5 → spBE K U [fv, ev, nv] H Q (WE (wAs1 K (.ref U) 4 (tSuite U) D) σ) := fun D σ hD hl =>
    ⟨fv, ev, nv, t, d, o, rfl, hv, hz, he, hok, hn, (fun g H1 s1 => toU _ H1 _ _ hD hl s1 (q0 g)), fun g => by
      obtain ⟨h1, h2, h3, h4, h5⟩ := q1 g
      exact ⟨h1, h2, (fun e H1 s1 => toU _ H1 _ _ hD hl s1 (h3 e)), (fun e b H1 s1 => toU _ H1 _ _ hD hl s1 (h4 e b)), h5⟩⟩
  refine ⟨_, rfl, _, rfl, ?_⟩
  cases b with
  | true =>
    refine iteT ?_
    refine ⟨_, rfl, _, rfl, _, rfl, rfl, ?_⟩
    exact main _ _ rfl rfl
  | false =>
    refine iteF ?_
    refine ⟨_, rfl, _, rfl, _, rfl, ?_⟩
    exact main _ _ rfl rfl
end
end K65
set_option Elab.async false
set_option linter.all false
set_option maxRecDepth 100000
set_option maxHeartbeats 8000000
namespace K65
open PySem PySem.Spec PyProof.Rows L2 Dt
/-! ### events that do not fit: mathematics -/
def oneR : PyData := .tuple [.int 0]
def psD (n q r : PyData) : PyData := .tuple [.str "push", n, q, r]
def badA (R : List PyData) : List PyData := [psD (.int packB) (.int 0) (.tuple R), psD (.int (-1)) (.int 0) (.tuple R), psD (.bool true) (.int 0) (.tuple R), psD (.str "5") (.int 0) (.tuple R), .none]
def badB (lf : Nat) (R : List PyData) : List PyData := [psD (.int 5) (.int (lf : Nat)) (.tuple R), psD (.int 5) (.int (-1)) (.tuple R), psD (.int 5) (.bool false) (.tuple R), .tuple [.str "depart", .int 0]]
def badC (R : List PyData) : List PyData := [psD (.int 5) (.int 0) (.tuple (R.drop 1)), psD (.int 5) (.int 0) (.tuple (R ++ [.tuple []])), psD (.int 5) (.int 0) (.list R), .list [.str "depart"]]
def badD (R : List PyData) : List PyData := [psD (.int 5) (.int 0) (.tuple (R.drop 1 ++ [.list [.int 0]])), psD (.int 5) (.int 0) (.tuple (R.drop 1 ++ [.tuple [.bool true]])), .tuple [.str "push", .int 5, .int 0]]
def badE (R : List PyData) : List PyData := [psD (.int 5) (.int 0) (.tuple (R.drop 1 ++ [.tuple [.int rankB]])), psD (.int 5) (.int 0) (.tuple ([.tuple [.int 0, .int (0 - rankB)]] ++ R.drop 1))]
def badF (R : List PyData) : List PyData := [psD (.int 5) (.int 0) (.tuple ([.tuple [.int 0, .int 0, .int 0, .int 0, .int 0, .int 0, .int 0, .int 0, .int 0]] ++ R.drop 1)), .tuple ([.str "push", .int 5, .int 0, .tuple R] ++ [.int 0]), .list [.str "push", .int 5, .int 0, .tuple R], .tuple [], .str "depart"]
def badG (R : List PyData) : List PyData := [.tuple ([.str "pull"] ++ ([.str "push", .int 5, .int 0, .tuple R] : List PyData).drop 1), .tuple [.str "departs"]]
def badsD (lf : Nat) (R : List PyData) : List PyData := badA R ++ badB lf R ++ badC R ++ badD R ++ badE R ++ badF R ++ badG R
theorem ev_psD (T : Dt) (n q r : PyData) : eventOf T (psD n q r) = (PyData.eqv (.str "push") (.str "push") && (belowB packB (numOf n) && wayOf T q r)) := rfl
theorem ev_no1 {T : Dt} {n q r : PyData} (h : belowB packB (numOf n) = false) : eventOf T (psD n q r) = false := by rw [ev_psD, h, Bool.false_and, Bool.and_false]
theorem ev_no2 {T : Dt} {n q r : PyData} (h : wayOf T q r = false) : eventOf T (psD n q r) = false := by rw [ev_psD, h, Bool.and_false, Bool.and_false]
theorem fit_no {n : Nat} {ds : List PyData} {d : PyData} (h : d ∈ ds) (g : rankOf d = false) : fitOf n (.tuple ds) = false := by
  show (decide (ds.length = n) && ds.all rankOf) = false
  have : ds.all rankOf = false := by
    rw [List.all_eq_false]
    exact ⟨d, h, by rw [g]; decide⟩
  rw [this, Bool.and_false]
theorem fit_ln {n : Nat} {ds : List PyData} (h : ds.length ≠ n) : fitOf n (.tuple ds) = false := by
  show (decide (ds.length = n) && ds.all rankOf) = false
  rw [decide_eq_false h, Bool.false_and]
theorem bads_no {T : Dt} {p : Ad} {R : List PyData} {d : PyData} (hp : (lv T)[0]? = some p) (hl : R.length = p.length + 1) (h : d ∈ badsD T.lf R) : eventOf T d = false := by
  have way : ∀ r, fitOf (p.length + 1) r = false → ∀ n, eventOf T (psD n (.int 0) r) = false := fun r hr n => ev_no2 (by rw [wayOf_yes (i := 0) rfl hp, hr])
  unfold badsD badA badB badC badD badE badF badG at h
  simp only [List.mem_append, List.mem_cons, List.not_mem_nil, or_false, or_assoc] at h
  rcases h with rfl | rfl | rfl | rfl | rfl | rfl | rfl | rfl | rfl | rfl | rfl | rfl | rfl | rfl | rfl | rfl | rfl | rfl | rfl | rfl | rfl | rfl | rfl | rfl | rfl
  · exact ev_no1 (by decide +kernel)
  · exact ev_no1 (by decide +kernel)
  · exact ev_no1 rfl
  · exact ev_no1 rfl
  · rfl
  · refine ev_no2 (wayOf_no ?_)
    show (decide ((0 : Int) ≤ (T.lf : Nat)) && decide (((T.lf : Nat) : Int) < (T.lf : Nat))) = false
    rw [decide_eq_false (Int.lt_irrefl _), Bool.and_false]
  · exact ev_no2 (wayOf_no rfl)
  · exact ev_no2 rfl
  · rfl
  · exact way _ (fit_ln (by rw [List.length_drop]; omega)) _
  · exact way _ (fit_ln (by rw [List.length_append]; show R.length + 1 ≠ _; omega)) _
  · exact way _ rfl _
  · rfl
  · exact way _ (fit_no (List.mem_append_right _ (List.mem_singleton.mpr rfl)) rfl) _
  · exact way _ (fit_no (List.mem_append_right _ (List.mem_singleton.mpr rfl)) rfl) _
  · rfl
  · exact way _ (fit_no (List.mem_append_right _ (List.mem_singleton.mpr rfl)) (by decide +kernel)) _
  · exact way _ (fit_no (List.mem_append_left _ (List.mem_singleton.mpr rfl)) (by decide +kernel)) _
  · exact way _ (fit_no (List.mem_append_left _ (List.mem_singleton.mpr rfl)) rfl) _
  · rfl
  · rfl
  · rfl
  · rfl
  · show (PyData.eqv (.str "pull") (.str "push") && (belowB packB (numOf (.int 5)) && wayOf T (.int 0) (.tuple R))) = false
    have e : PyData.eqv (.str "pull") (.str "push") = false := by
      unfold PyData.eqv
      decide +kernel
    rw [e, Bool.false_and]
  · show PyData.eqv (.str "departs") (.str "depart") = false
    unfold PyData.eqv
    decide +kernel
/-- a value that can be compared, and no long tuple -/
def SmT (d : PyData) : Prop := SeqAt.shaped d = true ∧ ∀ es, d = .tuple es → es.length ≤ 1000000
theorem shp_bl {n : Nat} {b : Bool} : Shp n (.bool b) := by
  unfold Shp
  rw [PyData.canLay0, PyData.depth]
  exact ⟨rfl, Nat.zero_le _⟩
theorem sm_tup {l : List PyData} (hl : l.length ≤ 1000000) (h : ∀ e ∈ l, Shp 3 e) : SmT (.tuple l) := ⟨(shp_tup h).ok (by decide), fun es e => by injection e with e; rw [← e]; exact hl⟩
theorem sm_lst {l : List PyData} (h : ∀ e ∈ l, Shp 3 e) : SmT (.list l) := ⟨(shp_lst h).ok (by decide), fun es e => nomatch e⟩
theorem ev_ps {n q r : PyData} (h1 : SmT n) (h2 : SmT q) (h3 : SmT r) : EvOk (psD n q r) := evok_list fun e he => by
  simp only [List.mem_cons, List.not_mem_nil, or_false] at he
  rcases he with rfl | rfl | rfl | rfl
  · exact sh_str (by decide +kernel)
  · exact h1
  · exact h2
  · exact h3
theorem bads_ok {lf : Nat} {R : List PyData} {d : PyData} (hl : R.length ≤ 1000) (hR : ∀ e ∈ R, Shp 2 e) (h : d ∈ badsD lf R) : EvOk d := by
  have hi : ∀ {i : Int}, SmT (.int i) := sh_int
  have hR3 : ∀ e ∈ R, Shp 3 e := fun e he => (hR e he).mono (by decide)
  have tR : SmT (.tuple R) := sm_tup (by omega) hR3
  have tD : ∀ x, Shp 3 x → SmT (.tuple (R.drop 1 ++ [x])) := fun x hx => sm_tup (by rw [List.length_append, List.length_drop]; show _ + 1 ≤ _; omega) fun e he => by
    rcases List.mem_append.mp he with he | he
    · exact hR3 e (List.mem_of_mem_drop he)
    · rw [List.mem_singleton.mp he]
      exact hx
  have dT : ∀ x, Shp 3 x → SmT (.tuple ([x] ++ R.drop 1)) := fun x hx => sm_tup (by rw [List.length_append, List.length_drop]; show 1 + _ ≤ _; omega) fun e he => by
    rcases List.mem_append.mp he with he | he
    · rw [List.mem_singleton.mp he]
      exact hx
    · exact hR3 e (List.mem_of_mem_drop he)
  unfold badsD badA badB badC badD badE badF badG at h
  simp only [List.mem_append, List.mem_cons, List.not_mem_nil, or_false, or_assoc] at h
  rcases h with rfl | rfl | rfl | rfl | rfl | rfl | rfl | rfl | rfl | rfl | rfl | rfl | rfl | rfl | rfl | rfl | rfl | rfl | rfl | rfl | rfl | rfl | rfl | rfl | rfl
  · exact ev_ps hi hi tR
  · exact ev_ps hi hi tR
  · exact ev_ps sh_bl hi tR
  · exact ev_ps (sh_str (by decide +kernel)) hi tR
  · exact fun ds e => nomatch e
  · exact ev_ps hi hi tR
  · exact ev_ps hi hi tR
  · exact ev_ps hi sh_bl tR
  · refine evok_list fun e he => ?_
    simp only [List.mem_cons, List.not_mem_nil, or_false] at he
    rcases he with rfl | rfl
    · exact sh_str (by decide +kernel)
    · exact sh_int
  · exact ev_ps hi hi (sm_tup (by rw [List.length_drop]; omega) fun e he => hR3 e (List.mem_of_mem_drop he))
  · refine ev_ps hi hi (sm_tup (by rw [List.length_append]; show _ + 1 ≤ _; omega) fun e he => ?_)
    rcases List.mem_append.mp he with he | he
    · exact hR3 e he
    · rw [List.mem_singleton.mp he]
      exact shp_tup (n := 2) fun e he => by cases he
  · exact ev_ps hi hi (sm_lst hR3)
  · exact fun ds e => nomatch e
  · exact ev_ps hi hi (tD _ (shp_lst (n := 2) fun e he => by rw [List.mem_singleton.mp he]; exact shp_int))
  · exact ev_ps hi hi (tD _ (shp_tup (n := 2) fun e he => by rw [List.mem_singleton.mp he]; exact shp_bl))
  · refine evok_list fun e he => ?_
    simp only [List.mem_cons, List.not_mem_nil, or_false] at he
    rcases he with rfl | rfl | rfl
    · exact sh_str (by decide +kernel)
    · exact sh_int
    · exact sh_int
  · exact ev_ps hi hi (tD _ (shp_tup (n := 2) fun e he => by rw [List.mem_singleton.mp he]; exact shp_int))
  · exact ev_ps hi hi (dT _ (shp_ints (n := 2) (l := [0, 0 - rankB])))
  · exact ev_ps hi hi (dT _ (shp_ints (n := 2) (l := [0, 0, 0, 0, 0, 0, 0, 0, 0])))
  · refine evok_list fun e he => ?_
    simp only [List.mem_append, List.mem_cons, List.not_mem_nil, or_false, or_assoc] at he
    rcases he with rfl | rfl | rfl | rfl | rfl
    · exact sh_str (by decide +kernel)
    · exact sh_int
    · exact sh_int
    · exact tR
    · exact sh_int
  · exact fun ds e => nomatch e
  · exact evok_list fun e he => by cases he
  · exact fun ds e => nomatch e
  · refine evok_list fun e he => ?_
    have he' : e ∈ ([.str "pull", .int 5, .int 0, .tuple R] : List PyData) := he
    simp only [List.mem_cons, List.not_mem_nil, or_false] at he'
    rcases he' with rfl | rfl | rfl | rfl
    · exact sh_str (by decide +kernel)
    · exact sh_int
    · exact sh_int
    · exact tR
  · refine evok_list fun e he => ?_
    rw [List.mem_singleton.mp he]
    exact sh_str (by decide +kernel)
theorem evsGo_dup {T : Dt} {b : PyData} {n : Int} (hb : pushNo b = some n) : ∀ {ds : List PyData} (seen : List Int), n ∈ seen → b ∈ ds → evsGo T seen ds = false
  | [], _, _, h => nomatch h
  | e :: ds, seen, hn, h => by
    unfold evsGo
    rcases List.mem_cons.mp h with rfl | h
    · rw [hb]
      show (eventOf T _ && (!decide (n ∈ seen) && _)) = false
      rw [decide_eq_true hn]
      simp
    · cases pushNo e with
      | none =>
        show (eventOf T e && evsGo T seen ds) = false
        rw [evsGo_dup hb seen hn h, Bool.and_false]
      | some m =>
        show (eventOf T e && (!decide (m ∈ seen) && evsGo T (m :: seen) ds)) = false
        rw [evsGo_dup hb (m :: seen) (List.mem_cons_of_mem _ hn) h, Bool.and_false, Bool.and_false]
theorem evs_twice {T : Dt} {b : PyData} {n : Int} {ds : List PyData} (hb : pushNo b = some n) (h : b ∈ ds) : evsOf T (.tuple (b :: ds)) = false := by
  show evsGo T [] (b :: ds) = false
  unfold evsGo
  rw [hb]
  show (eventOf T b && (!decide (n ∈ []) && evsGo T [n] ds)) = false
  rw [evsGo_dup hb [n] (List.mem_singleton.mpr rfl) h, Bool.and_false, Bool.and_false]
end K65
set_option Elab.async false
set_option linter.all false
set_option maxRecDepth 100000
set_option maxHeartbeats 8000000
namespace K65
open PySem PySem.Spec PyProof.Rows L2 Dt
/-! ### _law_bad_story -/
def tPV (K : PySem.W.Frag) (te : TE) : TE := fun σ H Q => ∃ (S : List Addr) (d : PyData), PV K S te σ H d ∧ ∀ v H', Same H H' → Dp K (offS S H') v d → Q v H'
theorem tPV_ok {K : PySem.W.Frag} {te : TE} : ∀ (σ : L2.St) (H : Hp) (Q : VK), tPV K te σ H Q → te σ H Q := fun σ H Q ⟨S, d, p, q⟩ => pv_use p q
def tPL (K : PySem.W.Frag) (te : TE) : TE := fun σ H Q => ∃ (S : List Addr) (ds : List PyData), PL K S te σ H ds ∧ ∀ v H', Same H H' → LVal K S H' v ds → Q v H'
theorem tPL_ok {K : PySem.W.Frag} {te : TE} : ∀ (σ : L2.St) (H : Hp) (Q : VK), tPL K te σ H Q → te σ H Q := fun σ H Q ⟨S, d, p, q⟩ => pl_use p q
section
variable {K : PySem.W.Frag} {S : List Addr} {σ : L2.St} {H : Hp} {te tf ta tb tc td : TE} {a b c d : PyData} {ds es : List PyData}
theorem pn_pow {i j n : Int} (h : CPow i j) (e : i ^ j.toNat = n) : PN (tOp (rI CPow fun i j => .int (i ^ j.toNat)) (tC (.int i)) (tC (.int j))) σ n := fun H Q q => ⟨i, j, rfl, rfl, h, by show Q (.int (i ^ j.toNat)) H; rw [e]; exact q⟩
theorem pn_shl {i j n : Int} (h : CPow i j) (e : i * 2 ^ j.toNat = n) : PN (tOp (rI CPow fun i j => .int (i * 2 ^ j.toNat)) (tC (.int i)) (tC (.int j))) σ n := fun H Q q => ⟨i, j, rfl, rfl, h, by show Q (.int (i * 2 ^ j.toNat)) H; rw [e]; exact q⟩
theorem pv_t1 (hS : InD S H) (h1 : PV K S ta σ H a) : PV K S (tTup (tCons ta tNil)) σ H (.tuple [a]) := pv_tup hS (pvs_cons h1 pvs_nil) (by show 1 ≤ 1000; decide)
theorem pv_t2 (hS : InD S H) (h1 : PV K S ta σ H a) (h2 : PV K S tb σ H b) : PV K S (tTup (tCons ta (tCons tb tNil))) σ H (.tuple [a, b]) := pv_tup hS (pvs_cons h1 (pvs_cons h2 pvs_nil)) (by show 2 ≤ 1000; decide)
theorem pv_ps {z : Str} (hS : InD S H) (h2 : PV K S tb σ H b) (h3 : PV K S tc σ H c) (h4 : PV K S td σ H d) : PV K S (tTup (tCons (tC (.str z)) (tCons tb (tCons tc (tCons td tNil))))) σ H (.tuple [.str z, b, c, d]) := pv_tup hS (pvs_cons pv_str (pvs_cons h2 (pvs_cons h3 (pvs_cons h4 pvs_nil)))) (by show 4 ≤ 1000; decide)
theorem pv_list (hS : InD S H) (ha : PV K S te σ H (.tuple ds)) {r : List V → Hp → VK → Prop} (hr : r = fun xs H Q => ∃ p ys, xs = [V.ref p] ∧ (SqL K H p ys ∨ SqT K H p ys) ∧ ∀ l, H l = none → Q (.ref l) (upd H l (.lst ys))) : PV K S (tCB r (tCons te tNil)) σ H (.list ds) := fun H1 s Q q => ha H1 s _ fun v1 H2 s2 h2 => by
  subst hr
  cases h2 with
  | @tup p xs _ hs1 ha1 =>
  exact ⟨p, xs, rfl, .inr (same_sqt offS_same hs1), fun l hl => q _ _ (s2.trans (same_new hl)) (.lst (sql_offS upd_same (((hS.same s).same s2).new hl)) (dps_same (GoD.of (same_new hl)) ha1))⟩
theorem rCatA_off (hS : InD S H) {v1 v2 : V} {Q : VK} (h1 : Dp K (offS S H) v1 (.tuple ds)) (h2 : Dp K (offS S H) v2 (.tuple es)) (hl : ds.length + es.length ≤ 10000) (q : ∀ v H', Same H H' → Dp K (offS S H') v (.tuple (ds ++ es)) → Q v H') : rCatA K v1 v2 H Q := by
  cases h1 with
  | @tup a xs _ hs1 ha1 =>
  cases h2 with
  | @tup b ys _ hs3 ha3 =>
  have l1 := dps_len ha1
  have l2 := dps_len ha3
  have hsl := sizeLine_eq
  have hd3 : DpAll K (offS S H) (xs ++ ys) (ds ++ es) := dps_app ha1 ha3
  refine ⟨a, b, xs, ys, rfl, rfl, same_sqt offS_same hs1, same_sqt offS_same hs3, by omega, fun e => ?_, fun _ e => ?_, fun _ _ p hp => ?_⟩
  · subst e
    exact q _ H same_refl (.tup hs3 hd3)
  · subst e
    rw [List.append_nil] at hd3
    exact q _ H same_refl (.tup hs1 hd3)
  · exact q _ _ (same_new hp) (.tup (sqt_offS upd_same (hS.new hp)) (dps_same (GoD.of (same_new hp)) hd3))
theorem LVal.ix {v : V} {k : Nat} {Q : VK} (h : LVal K S H v ds) (hd : ds[k]? = some d) (q : ∀ w, Dp K (offS S H) w d → Q w H) : rIxL K v (.int (k : Nat)) H Q := by
  obtain ⟨a, xs, rfl, a1, a2⟩ := h
  have hl := dps_len a2
  have hkl := (List.getElem?_eq_some_iff.mp hd).1
  have hx : xs[k]? = some (xs[k]'(by omega)) := List.getElem?_eq_getElem (by omega)
  obtain ⟨d', e1, e2⟩ := dps_at a2 hx
  rw [hd] at e1
  obtain rfl := Option.some.inj e1
  exact ⟨a, xs, _, _, rfl, rfl, SqL.of (offS_some a1).2, atI_nat hx, q _ e2⟩
end
theorem wipe1 {σ : L2.St} {i : Nat} {x : Option V} : wipe ((wipe σ [i]).set i x) [i] = wipe σ [i] := by
  show List.set (List.set (List.set σ i none) i x) i none = List.set σ i none
  rw [List.set_set, List.set_set]
theorem rd1 {σ : L2.St} {i : Nat} {x : V} (h : i < σ.length) : ((wipe σ [i]).set i (some x))[i]? = some (some x) := List.getElem?_set_self (by rw [wipe_length]; exact h)
def keep3 : Evt → Bool
  | .dep => true
  | .psh n _ _ => !decide (n = 3)
def BadOK (T : Dt) (d : PyData) : Prop := evsOf T d = false ∧ ∀ ds, d = .tuple ds → ds.length ≤ 1000 ∧ ∀ e ∈ ds, EvOk e
def spBadSt (K : PySem.W.Frag) : Sp := fun vs H Q _ => ∃ (tp ca sp a : Addr) (S : List Addr) (T : Dt) (RB : List (Addr × Addr)) (es : List Evt), vs = [.ref tp, .ref sp, .ref a] ∧ Tape K H tp ca ∧ (∀ y ∈ tps tp ca, y ∈ S) ∧ InD S H ∧ RwE K (offS S H) sp T RB ∧ Dp K (offS S H) (.ref a) (.tuple (es.map evD)) ∧ (∀ e ∈ es, EvG T e) ∧ es.length ≤ 70 ∧ T.ht ≤ 15 ∧ T.nodes ≤ 100 ∧
  ∀ H' v d, Rn K tp ca H H' → Dp K (offS S H') v d → BadOK T d → Q v H'
section
variable {P : Program} {w : World} {K : PySem.W.Frag} {mg : Str → Option Value} {base : Heap}
theorem ok_badst (D : DefAt K mg "_law_bad_story" s_law_bad_story ["tape", "spots", "story"]) (T0 : Txt K mg) (GPick : CalX P w K mg base CX0 1 "_law_pick" ["tape", "many"] (spPick K)) (GDepth : CalX P w K mg base CX0 1 "_law_depth" ["spots", "queue"] (spDepth K)) : CalX P w K mg base CX0 3 "_law_bad_story" ["tape", "spots", "story"] (spBadSt K) := by
  refine D.ok sc_law_bad_story (fun vs H Q E h => ?_) (fun f cdv A outer s H vs Q E hr h => ?_)
  · obtain ⟨tp, ca, sp, a, S, T, RB, es, rfl, _⟩ := h
    rfl
  obtain ⟨tp, ca, sp, a, S, T, RB, es, rfl, hT, hS, hin, hrw, hA, heg, hel, hht, hno, q⟩ := h
  have hu := hu_of hr
  refine ⟨_, (pss_cons (ps_set (i := 4) sc_law_bad_story.nd rfl (.inl rfl) (pe_callTy call_tuple_of (by rfl) T0.tuple PyProof.Rows.boot_tuple (pa_cons (pe_lc (own := [("k", 3)]) (g := gName 3) (tt := tYes) (by rfl) sc_law_bad_story.nd (pi_range1 (by rfl) T0.range (pa_cons (pe_op op_add (pe_c0 GDepth hr (by decide) rfl (pa_cons (pv 1) (pa_cons pe_int pa_nil))) pe_int) pa_nil)) (blkOk_by (own := [("k", 3)]) (N := N_law_bad_story) (sc := defScope s_law_bad_story) (by decide +kernel)) (fun _ _ _ _ _ => pg_name (i := 3) sc_law_bad_story.nd rfl (Or.inl rfl)) (fun _ _ _ _ _ => pts_nil) (fun _ _ _ _ _ => by exact (pe_tup (pa_cons pe_int pa_nil)))) pa_nil))) 
    (pss_cons (ps_set (i := 5) sc_law_bad_story.nd rfl (.inl rfl) (pe_conv (t' := tPV K _) (pe_tup (pa_cons pe_str (pa_cons pe_int (pa_cons pe_int (pa_cons (pv 4) pa_nil))))) tPV_ok)) 
    (pss_cons (ps_set (i := 6) sc_law_bad_story.nd rfl (.inl rfl) (pe_conv (t' := tPL K _) (pe_lst (pa_cons (pe_tup (pa_cons pe_str (pa_cons (pe_op op_pow pe_int pe_int) (pa_cons pe_int (pa_cons (pv 4) pa_nil))))) (pa_cons (pe_tup (pa_cons pe_str (pa_cons (pe_un un_neg pe_int) (pa_cons pe_int (pa_cons (pv 4) pa_nil))))) (pa_cons (pe_tup (pa_cons pe_str (pa_cons pe_bl (pa_cons pe_int (pa_cons (pv 4) pa_nil))))) (pa_cons (pe_tup (pa_cons pe_str (pa_cons pe_str (pa_cons pe_int (pa_cons (pv 4) pa_nil))))) (pa_cons pe_non pa_nil)))))) tPL_ok)) 
    (pss_cons (ps_set (i := 6) sc_law_bad_story.nd rfl (.inl rfl) (pe_conv (t' := tPL K _) (pe_op op_cat (pv 6) (pe_lst (pa_cons (pe_tup (pa_cons pe_str (pa_cons pe_int (pa_cons (pe_dget hu (pe_ix ix_list (pv 1) pe_int (fun _ _ => rfl)) pe_str (fun _ _ => rfl)) (pa_cons (pv 4) pa_nil))))) (pa_cons (pe_tup (pa_cons pe_str (pa_cons pe_int (pa_cons (pe_un un_neg pe_int) (pa_cons (pv 4) pa_nil))))) (pa_cons (pe_tup (pa_cons pe_str (pa_cons pe_int (pa_cons pe_bl (pa_cons (pv 4) pa_nil))))) (pa_cons (pe_tup (pa_cons pe_str (pa_cons pe_int pa_nil))) pa_nil)))))) tPL_ok)) 
    (pss_cons (ps_set (i := 6) sc_law_bad_story.nd rfl (.inl rfl) (pe_conv (t' := tPL K _) (pe_op op_cat (pv 6) (pe_lst (pa_cons (pe_tup (pa_cons pe_str (pa_cons pe_int (pa_cons pe_int (pa_cons (pe_slice sl_tupA (pv 4) (po_some pe_int) po_none) pa_nil))))) (pa_cons (pe_tup (pa_cons pe_str (pa_cons pe_int (pa_cons pe_int (pa_cons (pe_op op_catA (pv 4) (pe_tup (pa_cons (pe_tup pa_nil) pa_nil))) pa_nil))))) (pa_cons (pe_tup (pa_cons pe_str (pa_cons pe_int (pa_cons pe_int (pa_cons (pe_callTy call_list_of (by rfl) T0.list (by decide +kernel) (pa_cons (pv 4) pa_nil)) pa_nil))))) (pa_cons (pe_lst (pa_cons pe_str pa_nil)) pa_nil)))))) tPL_ok)) 
    (pss_cons (ps_set (i := 6) sc_law_bad_story.nd rfl (.inl rfl) (pe_conv (t' := tPL K _) (pe_op op_cat (pv 6) (pe_lst (pa_cons (pe_tup (pa_cons pe_str (pa_cons pe_int (pa_cons pe_int (pa_cons (pe_op op_catA (pe_slice sl_tupA (pv 4) (po_some pe_int) po_none) (pe_tup (pa_cons (pe_lst (pa_cons pe_int pa_nil)) pa_nil))) pa_nil))))) (pa_cons (pe_tup (pa_cons pe_str (pa_cons pe_int (pa_cons pe_int (pa_cons (pe_op op_catA (pe_slice sl_tupA (pv 4) (po_some pe_int) po_none) (pe_tup (pa_cons (pe_tup (pa_cons pe_bl pa_nil)) pa_nil))) pa_nil))))) (pa_cons (pe_tup (pa_cons pe_str (pa_cons pe_int (pa_cons pe_int pa_nil)))) pa_nil))))) tPL_ok)) 
    (pss_cons (ps_set (i := 6) sc_law_bad_story.nd rfl (.inl rfl) (pe_conv (t' := tPL K _) (pe_op op_cat (pv 6) (pe_lst (pa_cons (pe_tup (pa_cons pe_str (pa_cons pe_int (pa_cons pe_int (pa_cons (pe_op op_catA (pe_slice sl_tupA (pv 4) (po_some pe_int) po_none) (pe_tup (pa_cons (pe_tup (pa_cons (pe_op op_shl pe_int pe_int) pa_nil)) pa_nil))) pa_nil))))) (pa_cons (pe_tup (pa_cons pe_str (pa_cons pe_int (pa_cons pe_int (pa_cons (pe_op op_catA (pe_tup (pa_cons (pe_tup (pa_cons pe_int (pa_cons (pe_op op_sub pe_int (pe_op op_shl pe_int pe_int)) pa_nil))) pa_nil)) (pe_slice sl_tupA (pv 4) (po_some pe_int) po_none)) pa_nil))))) pa_nil)))) tPL_ok)) 
    (pss_cons (ps_set (i := 6) sc_law_bad_story.nd rfl (.inl rfl) (pe_conv (t' := tPL K _) (pe_op op_cat (pv 6) (pe_lst (pa_cons (pe_tup (pa_cons pe_str (pa_cons pe_int (pa_cons pe_int (pa_cons (pe_op op_catA (pe_tup (pa_cons (pe_tup (pa_cons pe_int (pa_cons pe_int (pa_cons pe_int (pa_cons pe_int (pa_cons pe_int (pa_cons pe_int (pa_cons pe_int (pa_cons pe_int (pa_cons pe_int pa_nil)))))))))) pa_nil)) (pe_slice sl_tupA (pv 4) (po_some pe_int) po_none)) pa_nil))))) (pa_cons (pe_op op_catA (pv 5) (pe_tup (pa_cons pe_int pa_nil))) (pa_cons (pe_callTy call_list_of (by rfl) T0.list (by decide +kernel) (pa_cons (pv 5) pa_nil)) (pa_cons (pe_tup pa_nil) (pa_cons pe_str pa_nil))))))) tPL_ok)) 
    (pss_cons (ps_set (i := 6) sc_law_bad_story.nd rfl (.inl rfl) (pe_conv (t' := tPL K _) (pe_op op_cat (pv 6) (pe_lst (pa_cons (pe_op op_catA (pe_tup (pa_cons pe_str pa_nil)) (pe_slice sl_tupA (pv 5) (po_some pe_int) po_none)) (pa_cons (pe_tup (pa_cons pe_str pa_nil)) pa_nil)))) tPL_ok)) 
    (pss_cons (ps_set (i := 7) sc_law_bad_story.nd rfl (.inl rfl) (pe_c0 GPick hr (by decide) rfl (pa_cons (pv 0) (pa_cons (pe_op op_add (pe_callB call_len_seq (by rfl) T0.len PySem.boot_len (pa_cons (pv 2) pa_nil)) pe_int) pa_nil)))) 
    (pss_cons (ps_set (i := 8) sc_law_bad_story.nd rfl (.inl rfl) (pe_c0 GPick hr (by decide) rfl (pa_cons (pv 0) (pa_cons pe_int pa_nil)))) 
    (pss_cons (ps_if (pt_cmpR op_eq (pv 8) pe_int (nomark _)) 
      (pss_one (ps_ret (pe_ix ix_list (pe_conv (t' := tPL K _) (pe_lst (pa_cons pe_non (pa_cons (pe_callTy call_list_of (by rfl) T0.list (by decide +kernel) (pa_cons (pv 2) pa_nil)) (pa_cons pe_int (pa_cons pe_str (pa_cons (pe_op op_catA (pv 2) (pe_tup (pa_cons pe_non pa_nil))) (pa_cons pe_bl pa_nil))))))) tPL_ok) (pe_c0 GPick hr (by decide) rfl (pa_cons (pv 0) (pa_cons pe_int pa_nil))) (fun _ _ => rfl)))) pss_nil) 
    (pss_cons (ps_if (pt_cmpR op_eq (pv 8) pe_int (nomark _)) 
      (pss_cons (ps_set (i := 9) sc_law_bad_story.nd rfl (.inl rfl) (pe_conv (t' := tPV K _) (pe_tup (pa_cons pe_str (pa_cons pe_int (pa_cons pe_int (pa_cons (pv 4) pa_nil))))) tPV_ok)) 
      (pss_cons (ps_set (i := 11) sc_law_bad_story.nd rfl (.inl rfl) (pe_callTy call_tuple_of (by rfl) T0.tuple PyProof.Rows.boot_tuple (pa_cons (pe_lc (own := [("event", 10)]) (g := gName 10) (by rfl) sc_law_bad_story.nd (pi_tup (pv 2)) (blkOk_by (own := [("event", 10)]) (N := N_law_bad_story) (sc := defScope s_law_bad_story) (by decide +kernel)) (fun _ _ _ _ _ => pg_name (i := 10) sc_law_bad_story.nd rfl (Or.inl rfl)) (fun _ _ _ _ _ => by exact (pts_one (PW.pt (pw_or (pt_cmpR op_eq (pe_ix (show IxR _ (rIxT K) from ix_tup) (pv 10) pe_int (fun _ _ => rfl)) pe_str (nomark _)) (pw_or1 (pt_cmpR op_ne (pe_ix (show IxR _ (rIxT K) from ix_tup) (pv 10) pe_int (fun _ _ => rfl)) pe_int (nomark _))))))) (fun _ _ _ _ _ => by exact (pv 10))) pa_nil))) 
      (pss_one (ps_ret (pe_conv (t' := tPV K _) (pe_op op_catA (pe_op op_catA (pe_op op_catA (pe_tup (pa_cons (pv 9) pa_nil)) (pe_slice sl_tupA (pv 11) po_none (po_some (pv 7)))) (pe_tup (pa_cons (pe_tup (pa_cons pe_str pa_nil)) (pa_cons (pv 9) pa_nil)))) (pe_slice sl_tupA (pv 11) (po_some (pv 7)) po_none)) tPV_ok))))) pss_nil) 
    (pss_one (ps_ret (pe_op op_catA (pe_op op_catA (pe_conv (t' := tPV K _) (pe_slice sl_tupA (pv 2) po_none (po_some (pv 7))) tPV_ok) (pe_tup (pa_cons (pe_ix ix_list (pv 6) (pe_c0 GPick hr (by decide) rfl (pa_cons (pv 0) (pa_cons (pe_callB call_len_seq (by rfl) T0.len PySem.boot_len (pa_cons (pv 6) pa_nil)) pa_nil))) (fun _ _ => rfl)) pa_nil))) (pe_conv (t' := tPV K _) (pe_slice sl_tupA (pv 2) (po_some (pv 7)) po_none) tPV_ok))))))))))))))))), ?_⟩
  have hsl := sizeLine_eq
  have hlf := lf_pos T
  have hp : (lv T)[0]? = some ((lv T)[0]'(by show 0 < T.lf; omega)) := List.getElem?_eq_getElem _
  generalize (lv T)[0]'(by show 0 < T.lf; omega) = p at hp
  have hph := ht_path (List.mem_of_getElem? hp)
  have evl : (es.map evD).length = es.length := List.length_map ..
  have evok : ∀ e ∈ es.map evD, EvOk e := fun e he => by
    obtain ⟨y, hy, rfl⟩ := List.mem_map.mp he
    exact evok_evD (heg y hy) hht
  refine ⟨_, rfl, sp, T, RB, 0, p, rfl, hrw.same offS_same, by omega, hno, hp, fun H1 s1 => ⟨_, _, rfl, rfl, ?_⟩⟩
  refine ⟨((p.length + 1 : Nat) : Int), rfl, by omega, by omega, fun Dl hDl => ?_⟩
  have dlS : Dl ∉ S := (hin.same s1).new hDl
  refine lc_range (lo := 0) (n := p.length + 1) (fun i H' => GoS [Dl] H1 H' ∧ ∃ vs, H' Dl = some (.lst vs) ∧ DpAll K (offS (Dl :: S) H') vs (List.replicate i oneR)) ⟨(GoS.of (same_new hDl)), [], upd_same, .nil⟩ ?_ ?_
  · rintro i H2 hi ⟨g2, vs, hD, hvs⟩
    have hvl := dps_len hvs
    rw [List.length_replicate] at hvl
    have in2 : InD (Dl :: S) H2 := fun y hy => by
      rcases List.mem_cons.mp hy with rfl | hy
      · rw [hD]; exact fun z => nomatch z
      · exact g2.k y ((hin.same s1) y hy)
    refine ⟨rfl, (by show 1 ≤ sizeLine; decide), fun t ht => ?_⟩
    have s3 := same_new (o := .tup [.int 0]) ht
    have ht3 := dpn (K := K) in2 ht (.cons (.int 0) .nil)
    refine ⟨vs, s3 _ _ hD, small1000 (by omega), (g2.trans (GoS.of s3)).upd (List.mem_singleton.mpr rfl), vs ++ [.ref t], upd_same, ?_⟩
    rw [List.replicate_succ']
    have gD : GoD (Dl :: S) (upd H2 t (.tup [.int 0])) (upd (upd H2 t (.tup [.int 0])) Dl (.lst (vs ++ [.ref t]))) := GoD.refl.upd (List.mem_cons_self ..)
    exact dps_app (dps_same ((GoD.of s3).trans gD) hvs) (.cons (dp_same gD ht3) .nil)
  rintro H2 ⟨g2, vs, hD, hvs⟩
  have s02 : Same H H2 := fun y o e => g2.at (s1 _ _ e) fun z => by
    rw [List.mem_singleton.mp z, s1.free hDl] at e
    exact nomatch e
  have in2 : InD (Dl :: S) H2 := fun y hy => by
    rcases List.mem_cons.mp hy with rfl | hy
    · rw [hD]; exact fun z => nomatch z
    · exact same_al s02 (hin y hy)
  refine ⟨Dl, vs, rfl, .inl ⟨SqL.of hD, fun rk hrk => ?_⟩⟩
  have hR := dp_same (offS_sub (S := S) (S' := Dl :: S) fun y hy => List.mem_cons_of_mem _ hy) (dpn (K := K) in2 hrk hvs)
  have s03 := s02.trans (same_new (o := .tup vs) hrk)
  revert hR s03
  generalize upd H2 rk (.tup vs) = H3
  intro hR s03
  obtain ⟨R, eR⟩ : ∃ R, R = List.replicate (p.length + 1) oneR := ⟨_, rfl⟩
  rw [← eR] at hR
  have hRl : R.length = p.length + 1 := by rw [eR, List.length_replicate]
  have hRs : ∀ e ∈ R, Shp 2 e := fun e he => by
    rw [eR] at he
    rw [List.eq_of_mem_replicate he]
    exact shp_ints (n := 1) (l := [0])
  have in3 := hin.same s03
  have vR : ∀ {H'} {σ : L2.St}, σ[4]? = some (some (.ref rk)) → Same H3 H' → PV K S (tVar 4) σ H' (.tuple R) := fun h s => pv_var h (dp_same (GoD.of s) hR)
  refine ⟨S, .tuple [.str "push", .int 5, .int 0, .tuple R], pv_ps in3 pv_int pv_int (vR rfl same_refl), fun gv H4 s4 hg => ?_⟩
  have in4 := in3.same s4
  refine ⟨S, badA R, pl_lst in4 (pvs_cons (pv_ps in4 (pv_n (pn_pow ⟨by decide, by decide, by decide⟩ (by decide +kernel))) pv_int (vR rfl s4)) (pvs_cons (pv_ps in4 (pv_n (pn_neg pn_c)) pv_int (vR rfl s4)) (pvs_cons (pv_ps in4 pv_bl pv_int (vR rfl s4)) (pvs_cons (pv_ps in4 pv_str pv_int (vR rfl s4)) (pvs_cons pv_non pvs_nil))))) (by show 5 ≤ 1000; decide), fun b1 H5 s5 h5 => ?_⟩
  have s35 := s4.trans s5
  have in5 := in4.same s5
  obtain ⟨r0, bb0, k0, fv0, z1, z2, z3, z4, z5⟩ := (hrw.same offS_same).at (sub_nil T)
  have hlow : T.low [] + T.lf = T.lf := by rw [low_nil, Nat.zero_add]
  rw [idx_nil] at z2
  refine ⟨S, badA R ++ badB T.lf R, pl_cat in5 (pl_var rfl h5) (pl_lst in5 (pvs_cons (pv_ps in5 pv_int (fun H1' s Q q => ⟨_, rfl, sp, _, 0, _, rfl, rfl, SqL.of (((s03.trans s35).trans s) _ _ (hrw.same offS_same).ln), atI_0 z2, r0, _, rfl, (r9_high T [] T fv0 k0 bb0 ▸ DGet.k (k := Sum.inr ("high" : Str)) (((s03.trans s35).trans s) _ _ z3)), by rw [hlow]; exact q _ H1' same_refl (.int _)⟩) (vR rfl s35)) (pvs_cons (pv_ps in5 pv_int (pv_n (pn_neg pn_c)) (vR rfl s35)) (pvs_cons (pv_ps in5 pv_int pv_bl (vR rfl s35)) (pvs_cons (pv_t2 in5 pv_str pv_int) pvs_nil)))) (by show 4 ≤ 1000; decide)) (by show 5 + 4 ≤ 10000; decide), fun b2 H6 s6 h6 => ?_⟩
  have s36 := s35.trans s6
  have in6 := in5.same s6
  refine ⟨S, badA R ++ badB T.lf R ++ badC R, pl_cat in6 (pl_var rfl h6) (pl_lst in6 (pvs_cons (pv_ps in6 pv_int pv_int (pv_drop in6 (vR rfl s36) (k := 1) pn_c)) (pvs_cons (pv_ps in6 pv_int pv_int (pv_cat in6 (vR rfl s36) (pv_t1 in6 (pv_tup in6 pvs_nil (by decide))) (by show R.length + 1 ≤ _; omega))) (pvs_cons (pv_ps in6 pv_int pv_int (pv_list in6 (vR rfl s36) rfl)) (pvs_cons (pv_lst in6 (pvs_cons pv_str pvs_nil) (by show 1 ≤ 1000; decide)) pvs_nil)))) (by show 4 ≤ 1000; decide)) (by show 5 + 4 + 4 ≤ 10000; decide), fun b3 H7 s7 h7 => ?_⟩
  have s37 := s36.trans s7
  have in7 := in6.same s7
  have dl : (R.drop 1).length + 1 ≤ 10000 := by rw [List.length_drop]; omega
  have dl2 : 1 + (R.drop 1).length ≤ 10000 := by rw [List.length_drop]; omega
  refine ⟨S, badA R ++ badB T.lf R ++ badC R ++ badD R, pl_cat in7 (pl_var rfl h7) (pl_lst in7 (pvs_cons (pv_ps in7 pv_int pv_int (pv_cat in7 (pv_drop in7 (vR rfl s37) (k := 1) pn_c) (pv_t1 in7 (pv_lst in7 (pvs_cons pv_int pvs_nil) (by show 1 ≤ 1000; decide))) dl)) (pvs_cons (pv_ps in7 pv_int pv_int (pv_cat in7 (pv_drop in7 (vR rfl s37) (k := 1) pn_c) (pv_t1 in7 (pv_t1 in7 pv_bl)) dl)) (pvs_cons (pv_tup in7 (pvs_cons pv_str (pvs_cons pv_int (pvs_cons pv_int pvs_nil))) (by show 3 ≤ 1000; decide)) pvs_nil))) (by show 3 ≤ 1000; decide)) (by show 5 + 4 + 4 + 3 ≤ 10000; decide), fun b4 H8 s8 h8 => ?_⟩
  have s38 := s37.trans s8
  have in8 := in7.same s8
  refine ⟨S, badA R ++ badB T.lf R ++ badC R ++ badD R ++ badE R, pl_cat in8 (pl_var rfl h8) (pl_lst in8 (pvs_cons (pv_ps in8 pv_int pv_int (pv_cat in8 (pv_drop in8 (vR rfl s38) (k := 1) pn_c) (pv_t1 in8 (pv_t1 in8 (pv_n (pn_shl ⟨by decide, by decide, by decide⟩ (by decide +kernel))))) dl)) (pvs_cons (pv_ps in8 pv_int pv_int (pv_cat in8 (pv_t1 in8 (pv_t2 in8 pv_int (pv_n (pn_sub pn_c (pn_shl ⟨by decide, by decide, by decide⟩ (by decide +kernel)))))) (pv_drop in8 (vR rfl s38) (k := 1) pn_c) dl2)) pvs_nil)) (by show 2 ≤ 1000; decide)) (by show 5 + 4 + 4 + 3 + 2 ≤ 10000; decide), fun b5 H9 s9 h9 => ?_⟩
  have s39 := s38.trans s9
  have in9 := in8.same s9
  have vG : ∀ {H'} {σ : L2.St}, σ[5]? = some (some gv) → Same H4 H' → PV K S (tVar 5) σ H' (.tuple [.str "push", .int 5, .int 0, .tuple R]) := fun h s => pv_var h (dp_same (GoD.of s) hg)
  have s49 : Same H4 H9 := s5.trans (s6.trans (s7.trans (s8.trans s9)))
  refine ⟨S, badA R ++ badB T.lf R ++ badC R ++ badD R ++ badE R ++ badF R, pl_cat in9 (pl_var rfl h9) (pl_lst in9 (pvs_cons (pv_ps in9 pv_int pv_int (pv_cat in9 (pv_t1 in9 (pv_tup in9 (pvs_cons pv_int (pvs_cons pv_int (pvs_cons pv_int (pvs_cons pv_int (pvs_cons pv_int (pvs_cons pv_int (pvs_cons pv_int (pvs_cons pv_int (pvs_cons pv_int pvs_nil))))))))) (by show 9 ≤ 1000; decide))) (pv_drop in9 (vR rfl s39) (k := 1) pn_c) dl2)) (pvs_cons (pv_cat in9 (vG rfl s49) (pv_t1 in9 pv_int) (by show 4 + 1 ≤ 10000; decide)) (pvs_cons (pv_list in9 (vG rfl s49) rfl) (pvs_cons (pv_tup in9 pvs_nil (by decide)) (pvs_cons pv_str pvs_nil))))) (by show 5 ≤ 1000; decide)) (by show 5 + 4 + 4 + 3 + 2 + 5 ≤ 10000; decide), fun b6 H10 s10 h10 => ?_⟩
  have s310 := s39.trans s10
  have s410 := s49.trans s10
  have in10 := in9.same s10
  refine ⟨S, badsD T.lf R, pl_cat in10 (pl_var rfl h10) (pl_lst in10 (pvs_cons (pv_cat in10 (pv_t1 in10 pv_str) (pv_drop in10 (vG rfl s410) (k := 1) pn_c) (by show 1 + 3 ≤ 10000; decide)) (pvs_cons (pv_t1 in10 pv_str) pvs_nil)) (by show 2 ≤ 1000; decide)) (by show 5 + 4 + 4 + 3 + 2 + 5 + 2 ≤ 10000; decide), fun b7 H11 s11 h11 => ?_⟩
  have in11 := in10.same s11
  have s011 : Same H H11 := s03.trans (s310.trans s11)
  have sR11 : Same H3 H11 := s310.trans s11
  have R0 : Rn K tp ca H H11 := Rn.of hT s011
  have hA11 := dp_same (GoD.of s011) hA
  have hb7 := h11
  obtain ⟨bl, bxs, rfl, q1, q2⟩ := hb7
  have hbl : bxs.length = 25 := dps_len q2
  clear q1 q2
  have gS : ∀ {H1 H2 : Hp}, Rn K tp ca H1 H2 → GoD S H1 H2 := fun r => r.g.d hS
  have hAv := hA11
  cases hAv with
  | @tup a' evs _ heb hevs =>
  have hevl := dps_len hevs
  rw [List.length_map] at hevl
  refine ⟨_, rfl, _, rfl, a, evs, rfl, .inr (same_sqt offS_same heb), _, _, rfl, rfl, tp, ca, es.length + 1, by rw [hevl]; rfl, R0.b, by omega, by omega, fun H12 k hk R12 => ?_⟩
  refine ⟨_, rfl, tp, ca, 5, rfl, R12.b, by decide, by decide, fun H13 wy hwy R13 => ?_⟩
  have R113 := R12.trans R13
  have R013 := R0.trans R113
  have hA13 := dp_same (gS R113) hA11
  have in13 : InD S H13 := fun y hy => R013.g.k y (hin y hy)
  have hR13 := dp_same (gS R113) (dp_same (GoD.of sR11) hR)
  have hb13 := h11.go (gS R113)
  have all : ∀ {ds : List PyData}, ds.length ≤ 1000 → (∀ e ∈ ds, EvOk e) → ∀ ds', PyData.tuple ds = .tuple ds' → ds'.length ≤ 1000 ∧ ∀ e ∈ ds', EvOk e := fun h1 h2 ds' e => by
    injection e with e
    rw [← e]
    exact ⟨h1, h2⟩
  refine ⟨_, rfl, rfl, _, rfl, ite2 (fun _ => ?_) (fun c0 => ?_)⟩
  · -- no story at all
    refine ⟨S, [.none, .list (es.map evD), .int 5, .str "depart", .tuple (es.map evD ++ [.none]), .bool true], pl_lst in13 (pvs_cons pv_non (pvs_cons (pv_list in13 (pv_var rfl hA13) rfl) (pvs_cons pv_int (pvs_cons pv_str (pvs_cons (pv_cat in13 (pv_var rfl hA13) (pv_t1 in13 pv_non) (by rw [evl]; show _ + 1 ≤ _; omega)) (pvs_cons pv_bl pvs_nil)))))) (by show 6 ≤ 1000; decide), fun lv' H14 s14 h14 => ?_⟩
    refine ⟨_, rfl, tp, ca, 6, rfl, R013.b.same s14, by decide, by decide, fun H15 c hc R15 => ?_⟩
    have h15 := h14.go (gS R15)
    have hcl : ([.none, .list (es.map evD), .int 5, .str "depart", .tuple (es.map evD ++ [.none]), .bool true] : List PyData)[c]? = some (([.none, .list (es.map evD), .int 5, .str "depart", .tuple (es.map evD ++ [.none]), .bool true] : List PyData)[c]'hc) := List.getElem?_eq_getElem _
    refine h15.ix hcl fun w hw => ?_
    refine q H15 w _ ((R013.same s14).trans R15) hw ?_
    have hm := List.mem_of_getElem? hcl
    revert hm
    generalize ([.none, .list (es.map evD), .int 5, .str "depart", .tuple (es.map evD ++ [.none]), .bool true] : List PyData)[c]'hc = dd
    intro hm
    simp only [List.mem_cons, List.not_mem_nil, or_false] at hm
    rcases hm with rfl | rfl | rfl | rfl | rfl | rfl
    · exact ⟨rfl, fun ds e => nomatch e⟩
    · exact ⟨rfl, fun ds e => nomatch e⟩
    · exact ⟨rfl, fun ds e => nomatch e⟩
    · exact ⟨rfl, fun ds e => nomatch e⟩
    · refine ⟨evsGo_bad (b := .none) rfl [] (List.mem_append_right _ (List.mem_singleton.mpr rfl)), all (by rw [List.length_append, evl]; show _ + 1 ≤ _; omega) fun e he => ?_⟩
      rcases List.mem_append.mp he with he | he
      · exact evok e he
      · rw [List.mem_singleton.mp he]
        exact fun ds e => nomatch e
    · exact ⟨rfl, fun ds e => nomatch e⟩
  refine ⟨_, rfl, rfl, _, rfl, ite2 (fun _ => ?_) (fun c1 => ?_)⟩
  · -- the same number twice
    obtain ⟨F, hF⟩ : ∃ F, F = psD (.int 3) (.int 0) (.tuple R) := ⟨_, rfl⟩
    refine ⟨S, psD (.int 3) (.int 0) (.tuple R), pv_ps in13 pv_int pv_int (pv_var rfl hR13), fun fv H14 s14 hf => ?_⟩
    rw [← hF] at hf
    have in14 := in13.same s14
    have hA14 := dp_same (GoD.of s14) hA13
    have g1114 : GoD S H11 H14 := (gS R113).trans (GoD.of s14)
    have heb14 := same_sqt (Same.trans g1114 offS_same) heb
    have hevs14 := dps_same g1114 hevs
    refine ⟨_, rfl, a, rfl, ⟨_, heb14⟩, fun D2 hD2 => ?_⟩
    refine lc_tup (K := K) (a := a) (xs := evs) (fun i H' => Same H14 H' ∧ ∃ vs, H' D2 = some (.lst vs) ∧ vs.length ≤ i ∧ DpAll K (offS S H14) vs (((es.take i).filter keep3).map evD)) ⟨same_new hD2, [], upd_same, Nat.le_refl _, .nil⟩ (fun i H' _ ⟨s, _⟩ => same_sqt s heb14) ?_ ?_
    · rintro i x H15 hx ⟨s15, vs2, hD2', hvl2, hvs2⟩
      have hil := (List.getElem?_eq_some_iff.mp hx).1
      rw [hevl] at hil
      have hei : es[i]? = some es[i] := List.getElem?_eq_getElem hil
      have etk : es.take (i + 1) = es.take i ++ [es[i]] := List.take_succ_eq_append_getElem hil
      obtain ⟨dx0, hx1, hx2⟩ := dps_at hevs14 hx
      rw [List.getElem?_map, hei] at hx1
      obtain rfl := Option.some.inj hx1
      generalize es[i] = e at etk hei hx2
      have yes : keep3 e = true → ∀ H', H' = H15 → ∃ acc, H' D2 = some (.lst acc) ∧ acc.length < sizeLine ∧ (fun i H' => Same H14 H' ∧ ∃ vs, H' D2 = some (.lst vs) ∧ vs.length ≤ i ∧ DpAll K (offS S H14) vs (((es.take i).filter keep3).map evD)) (i + 1) (upd H' D2 (.lst (acc ++ [x]))) := fun hk H' e' => by
        subst e'
        refine ⟨vs2, hD2', small1000 (by omega), same_mut s15 hD2, vs2 ++ [x], upd_same, by rw [List.length_append]; show _ + 1 ≤ _; omega, ?_⟩
        rw [etk, List.filter_append, List.map_append, List.filter_cons_of_pos hk]
        exact dps_app hvs2 (.cons hx2 .nil)
      cases e with
      | dep =>
        have hx4' : Dp K (offS S H14) x (.tuple [.str "depart"]) := hx2
        cases hx4' with
        | @tup xb xs2 _ hxb hxs =>
        cases hxs with
        | @cons v1 _ _ _ e1 hxs =>
        cases hxs
        cases e1
        have hxb15 := same_sqt (Same.trans offS_same s15) hxb
        refine ⟨wipe1, ?_⟩
        refine ⟨_, rd1 (by simp only [List.length_set]; show 10 < 12; decide), xb, _, 0, _, rfl, rfl, hxb15, atI_0 rfl, rfl, _, rfl, ite2 (fun _ => ?_) (fun c => absurd (decide_eq_true rfl) c)⟩
        refine iteT ⟨_, rd1 (by simp only [List.length_set]; show 10 < 12; decide), ?_⟩
        exact yes rfl _ rfl
      | psh n qi rs =>
        have hx4' : Dp K (offS S H14) x (.tuple [.str "push", .int n, .int (qi : Nat), .tuple (rs.map intsD)]) := hx2
        cases hx4' with
        | @tup xb xs2 _ hxb hxs =>
        cases hxs with
        | @cons v1 _ _ _ e1 hxs =>
        cases hxs with
        | @cons v2 _ _ _ e2 hxs =>
        cases e1
        cases e2
        have hxb15 := same_sqt (Same.trans offS_same s15) hxb
        refine ⟨wipe1, ?_⟩
        refine ⟨_, rd1 (by simp only [List.length_set]; show 10 < 12; decide), xb, _, 0, _, rfl, rfl, hxb15, atI_0 rfl, rfl, _, rfl, ite2 (fun c => absurd (of_decide_eq_true c) (by decide +kernel)) (fun _ => ?_)⟩
        refine ⟨_, rd1 (by simp only [List.length_set]; show 10 < 12; decide), xb, _, 1, _, rfl, rfl, hxb15, atI_1 rfl, ?_⟩
        refine ⟨rfl, _, rfl, ite2 (fun hb => ?_) (fun hb => ?_)⟩
        · refine ⟨_, rd1 (by simp only [List.length_set]; show 10 < 12; decide), ?_⟩
          refine yes ?_ _ rfl
          show (!decide (n = 3)) = true
          rw [Bool.not_eq_true'] at hb ⊢
          exact decide_eq_false fun z => of_decide_eq_false hb (by rw [z])
        · have hn3 : n = 3 := by
            by_cases z : n = 3
            · exact z
            · refine absurd ?_ hb
              rw [Bool.not_eq_true']
              exact decide_eq_false fun e => z (by injection e)
          refine ⟨s15, vs2, hD2', by omega, ?_⟩
          rw [etk, List.filter_append, List.filter_cons_of_neg (by rw [hn3]; exact fun z => nomatch (show false = true from z)), List.filter_nil, List.append_nil]
          exact hvs2
    · rintro H15 ⟨s15, vs2, hD2', hvl2, hvs2⟩
      rw [hevl, List.take_length] at hvs2
      refine ⟨D2, vs2, rfl, .inl ⟨SqL.of hD2', fun kt hkt => ?_⟩⟩
      obtain ⟨Kp, eKp⟩ : ∃ Kp, Kp = (es.filter keep3).map evD := ⟨_, rfl⟩
      have hKl : Kp.length ≤ 70 := by
        rw [eKp, List.length_map]
        have := List.length_filter_le keep3 es
        omega
      have s16 := s15.trans (same_new (o := .tup vs2) hkt)
      have in16 := in14.same s16
      have hK16 : Dp K (offS S (upd H15 kt (.tup vs2))) (.ref kt) (.tuple Kp) := by
        rw [eKp]
        exact .tup (sqt_offS upd_same ((in14.same s15).new hkt)) (dps_same (GoD.of s16) hvs2)
      revert s16 in16 hK16
      generalize upd H15 kt (.tup vs2) = H16
      intro s16 in16 hK16
      have hf16 := dp_same (GoD.of (S := S) s16) hf
      refine ⟨S, .tuple ([F] ++ Kp.take k ++ [.tuple [.str "depart"], F] ++ Kp.drop k), pv_cat in16 (pv_cat in16 (pv_cat in16 (pv_t1 in16 (pv_var (by simp [List.getElem?_set, L2.start]) hf16)) (pv_take in16 (pv_var (by simp [List.getElem?_set, L2.start]) hK16) (k := k) (pn_v (by simp [List.getElem?_set, L2.start]))) (by rw [List.length_take]; show 1 + _ ≤ _; omega)) (pv_t2 in16 (pv_t1 in16 pv_str) (pv_var (by simp [List.getElem?_set, L2.start]) hf16)) (by rw [List.length_append, List.length_take]; show 1 + _ + 2 ≤ _; omega)) (pv_drop in16 (pv_var (by simp [List.getElem?_set, L2.start]) hK16) (k := k) (pn_v (by simp [List.getElem?_set, L2.start]))) (by rw [List.length_append, List.length_append, List.length_take, List.length_drop]; show 1 + _ + 2 + _ ≤ _; omega), fun w H17 s17 hw => ?_⟩
      refine q H17 w _ (R013.same (s14.trans (s16.trans s17))) hw ⟨?_, all (by rw [List.length_append, List.length_append, List.length_append, List.length_take, List.length_drop]; show 1 + _ + 2 + _ ≤ _; omega) fun e he => ?_⟩
      · refine evs_twice (n := 3) (b := F) (ds := Kp.take k ++ [.tuple [.str "depart"], F] ++ Kp.drop k) (by rw [hF]; show (if PyData.eqv (.str "push") (.str "push") = true then some 3 else none) = some (3 : Int); rw [show PyData.eqv (.str "push") (.str "push") = true by unfold PyData.eqv; decide +kernel]; rfl) ?_
        exact List.mem_append_left _ (List.mem_append_right _ (List.mem_cons_of_mem _ (List.mem_singleton.mpr rfl)))
      · have okF : EvOk F := by
          rw [hF]
          exact ev_ps sh_int sh_int (sm_tup (by omega) fun e he => (hRs e he).mono (by decide))
        have okK : ∀ e ∈ Kp, EvOk e := fun e he => by
          rw [eKp] at he
          obtain ⟨y, hy, rfl⟩ := List.mem_map.mp he
          exact evok_evD (heg y (List.mem_filter.mp hy).1) hht
        rcases List.mem_append.mp he with he | he
        · rcases List.mem_append.mp he with he | he
          · rcases List.mem_append.mp he with he | he
            · rw [List.mem_singleton.mp he]
              exact okF
            · exact okK e (List.mem_of_mem_take he)
          · simp only [List.mem_cons, List.not_mem_nil, or_false] at he
            rcases he with rfl | rfl
            · exact evok_list fun e he => by rw [List.mem_singleton.mp he]; exact sh_str (by decide +kernel)
            · exact okF
        · exact okK e (List.mem_of_mem_drop he)
  · -- one event that does not fit
    refine ⟨S, _, pv_take in13 (pv_var (by simp [List.getElem?_set, L2.start]) hA13) (k := k) (pn_v (by simp [List.getElem?_set, L2.start])), fun v1 H14 s14 h1 => ?_⟩
    have h14 := hb13.go (GoD.of (S := S) s14)
    have hb14 := h14
    obtain ⟨bl', bxs', ebl, q1, q2⟩ := hb14
    injection ebl with ebl
    subst ebl
    have hbl' : bxs'.length = 25 := dps_len q2
    refine ⟨.ref bl, (by simp [List.getElem?_set, L2.start]), .ref tp, (by simp [List.getElem?_set, L2.start]), .ref bl, (by simp [List.getElem?_set, L2.start]), bl, bxs', rfl, .inl (SqL.of (offS_some q1).2), tp, ca, 25, by rw [hbl']; rfl, R013.b.same s14, by decide, by decide, fun H15 c hc R15 => ?_⟩
    have h15 := h14.go (gS R15)
    have hbn : (badsD T.lf R).length = 25 := rfl
    have hcl : (badsD T.lf R)[c]? = some ((badsD T.lf R)[c]'(by omega)) := List.getElem?_eq_getElem _
    generalize (badsD T.lf R)[c]'(by omega) = bd at hcl
    refine h15.ix hcl fun wv hwv => ?_
    have R015 := (R013.same s14).trans R15
    have in15 : InD S H15 := fun y hy => R015.g.k y (hin y hy)
    refine ⟨(by show 1 ≤ sizeLine; decide), fun tt htt => ?_⟩
    have s16 := same_new (o := .tup [wv]) htt
    have h2 := dpn (K := K) in15 htt (.cons hwv .nil)
    have in16 := in15.same s16
    have h1' := dp_same (gS R15) h1
    have h1'' := dp_same (GoD.of (S := S) s16) h1'
    revert s16 h2 in16 h1''
    generalize upd H15 tt (.tup [wv]) = H16
    intro s16 h2 in16 h1''
    have lt : ((es.map evD).take k).length ≤ 70 := by rw [List.length_take, evl]; omega
    have ld : ((es.map evD).drop k).length ≤ 70 := by rw [List.length_drop, evl]; omega
    refine rCatA_off in16 h1'' h2 (by show _ + 1 ≤ _; omega) fun v2 H17 s17 h3 => ?_
    have in17 := in16.same s17
    have R017 := R015.same (s16.trans s17)
    have hA17 := dp_same (gS R017) hA
    refine ⟨S, _, pv_drop in17 (pv_var (by simp [List.getElem?_set, L2.start]) hA17) (k := k) (pn_v (by simp [List.getElem?_set, L2.start])), fun v3 H18 s18 h4 => ?_⟩
    refine rCatA_off (in17.same s18) (dp_same (GoD.of (S := S) s18) h3) h4 (by rw [List.length_append]; show _ + 1 + _ ≤ _; omega) fun v4 H19 s19 h5 => ?_
    have hbm := List.mem_of_getElem? hcl
    refine q H19 v4 _ (R017.same (s18.trans s19)) h5 ⟨evsGo_bad (bads_no hp hRl hbm) [] (List.mem_append_left _ (List.mem_append_right _ (List.mem_singleton.mpr rfl))), all (by rw [List.length_append, List.length_append]; show _ + 1 + _ ≤ _; omega) fun e he => ?_⟩
    rcases List.mem_append.mp he with he | he
    · rcases List.mem_append.mp he with he | he
      · exact evok e (List.mem_of_mem_take he)
      · rw [List.mem_singleton.mp he]
        exact bads_ok (by omega) hRs hbm
    · exact evok e (List.mem_of_mem_drop he)
end
end K65
set_option Elab.async false
set_option linter.all false
set_option maxRecDepth 100000
set_option maxHeartbeats 8000000
namespace K65
open PySem PySem.Spec PyProof.Rows L2 Dt
/-! ### _law_refused -/
section
variable {K : PySem.W.Frag} {S : List Addr} {σ : L2.St} {H : Hp} {te : TE} {ds : List PyData}
theorem pv_rep (hS : InD S H) (ha : PV K S te σ H (.tuple ds)) (h0 : ds ≠ []) (hl : ds.length ≤ 1000) {n : Nat} (h2 : 2 ≤ n) (h3 : n ≤ 1000) : PV K S (tOp (rRepT K) te (tC (.int (n : Nat)))) σ H (.tuple (List.replicate n ds).flatten) := fun H1 s Q q => ha H1 s _ fun v1 H2 s2 h2' => by
  cases h2' with
  | @tup a xs _ hs1 ha1 =>
  have l1 := dps_len ha1
  have dr : ∀ n : Nat, DpAll K (offS S H2) (List.replicate n xs).flatten (List.replicate n ds).flatten := fun n => by
    induction n with
    | zero => exact .nil
    | succ n ih =>
      rw [List.replicate_succ, List.replicate_succ, List.flatten_cons, List.flatten_cons]
      exact dps_app ha1 ih
  refine ⟨a, ((n : Nat) : Int), xs, rfl, rfl, same_sqt offS_same hs1, (fun e => h0 (by rw [e] at l1; exact List.eq_nil_of_length_eq_zero l1.symm)), by omega, by omega, by omega, fun p hp => ?_⟩
  refine q _ _ (s2.trans (same_new hp)) (.tup (sqt_offS upd_same (((hS.same s).same s2).new hp)) ?_)
  rw [Int.toNat_natCast]
  exact dps_same (GoD.of (same_new hp)) (dr n)
end
def refD (z : Str) : PyData := .tuple [.str "refused", .str z, .int (-1)]
theorem ref_plain (z : Str) : plainT 20 (refD z) := ⟨(by show 3 ≤ 1000000; decide), fun d hd => by
  simp only [List.mem_cons, List.not_mem_nil, or_false] at hd
  rcases hd with rfl | rfl | rfl <;> trivial⟩
theorem ref_dp {K : PySem.W.Frag} {H : Hp} {r : Addr} {z : Str} (h : H r = some (.tup [.str "refused", .str z, .int (-1)])) : Dp K H (.ref r) (refD z) := .tup (SqT.of h) (.cons (.str _) (.cons (.str _) (.cons (.int _) .nil)))
def unitD : PyData := .tuple []
def oddsD : List PyData := [.none, .list [], .list [unitD], .tuple [.list []], .tuple [unitD, .none], .str "o", .int 0, .tuple (List.replicate 7 [unitD]).flatten, .tuple [.tuple (List.replicate 7 [unitD]).flatten, unitD], .tuple [unitD, .tuple [unitD, .int 1]], .bool true]
theorem odds_bad : ∀ d ∈ oddsD, (dtOf d).good 1 = false ∧ (dtOf d).size ≤ 100000 := by
  intro d hd
  unfold oddsD at hd
  simp only [List.mem_cons, List.not_mem_nil, or_false] at hd
  rcases hd with rfl | rfl | rfl | rfl | rfl | rfl | rfl | rfl | rfl | rfl | rfl
  all_goals exact ⟨by decide +kernel, by decide +kernel⟩
def awayD (n : Nat) : List PyData := [.int (-1), .int (n : Nat), .int ((n : Nat) + 1), .bool true, .bool false, .none, .str "0", .tuple [.int 0], .int (0 - (n : Nat))]
theorem away_bad {n : Nat} (hn : 1 ≤ n) : ∀ d ∈ awayD n, belowB (n : Nat) (numOf d) = false := by
  intro d hd
  unfold awayD at hd
  simp only [List.mem_cons, List.not_mem_nil, or_false] at hd
  have num : ∀ i : Int, (i < 0 ∨ (n : Nat) ≤ i) → belowB (n : Nat) (some i) = false := fun i h => by
    show (decide ((0 : Int) ≤ i) && decide (i < ((n : Nat) : Int))) = false
    rcases h with h | h
    · rw [decide_eq_false (by omega), Bool.false_and]
    · rw [decide_eq_false (p := i < ((n : Nat) : Int)) (by omega), Bool.and_false]
  rcases hd with rfl | rfl | rfl | rfl | rfl | rfl | rfl | rfl | rfl
  · exact num _ (.inl (by decide))
  · exact num _ (.inr (by omega))
  · exact num _ (.inr (by omega))
  · rfl
  · rfl
  · rfl
  · rfl
  · rfl
  · exact num _ (.inl (by omega))
def spRefused (K : PySem.W.Frag) : Sp := fun vs H Q _ => ∃ (tp ca sp a : Addr) (fv : V) (S : List Addr) (T : Dt) (RB : List (Addr × Addr)) (es : List Evt), vs = [.ref tp, fv, .ref a, .ref sp] ∧ Tape K H tp ca ∧ (∀ y ∈ tps tp ca, y ∈ S) ∧ InD S H ∧ RwE K (offS S H) sp T RB ∧ Dp K (offS S H) (.ref a) (.tuple (es.map evD)) ∧ StoryOK T es ∧ es.length ≤ 70 ∧
  ShV K (offS S H) fv T ∧ T.good 1 = true ∧ T.ht ≤ 15 ∧ T.nodes ≤ 64 ∧ T.size ≤ 100000 ∧ ∀ H', Rn K tp ca H H' → Q (.bl true) H'
section
variable {P : Program} {w : World} {K : PySem.W.Frag} {mg : Str → Option Value} {base : Heap}
theorem ok_refused (D : DefAt K mg "_law_refused" s_law_refused ["tape", "figure", "story", "spots"]) (T0 : Txt K mg) (GPick : CalX P w K mg base CX0 1 "_law_pick" ["tape", "many"] (spPick K)) (GSame : CalX P w K mg base CX0 20 "_law_same" ["told", "due"] (spSame K 20)) (GTold : CalX P w K mg base CX0 27 "_law_told" ["figure", "story", "spot", "named"] (spToldB K)) (GBadStory : CalX P w K mg base CX0 3 "_law_bad_story" ["tape", "spots", "story"] (spBadSt K)) :
    CalX P w K mg base CX0 28 "_law_refused" ["tape", "figure", "story", "spots"] (spRefused K) := by
  refine D.ok sc_law_refused (fun vs H Q E h => ?_) (fun f cdv A outer s H vs Q E hr h => ?_)
  · obtain ⟨tp, ca, sp, a, fv, S, T, RB, es, rfl, _⟩ := h
    rfl
  obtain ⟨tp, ca, sp, a, fv, S, T, RB, es, rfl, hT, hS, hin, hrw, hA, hst, hel, hfv, hgd, hht, hno, hsz, q⟩ := h
  refine ⟨_, (pss_cons (ps_set (i := 4) sc_law_refused.nd rfl (.inl rfl) (pe_conv (t' := tPL K _) (pe_lst (pa_cons pe_non (pa_cons (pe_lst pa_nil) (pa_cons (pe_lst (pa_cons (pe_tup pa_nil) pa_nil)) (pa_cons (pe_tup (pa_cons (pe_lst pa_nil) pa_nil)) (pa_cons (pe_tup (pa_cons (pe_tup pa_nil) (pa_cons pe_non pa_nil))) (pa_cons pe_str (pa_cons pe_int (pa_cons (pe_op op_repT (pe_tup (pa_cons (pe_tup pa_nil) pa_nil)) pe_int) (pa_cons (pe_tup (pa_cons (pe_op op_repT (pe_tup (pa_cons (pe_tup pa_nil) pa_nil)) pe_int) (pa_cons (pe_tup pa_nil) pa_nil))) (pa_cons (pe_tup (pa_cons (pe_tup pa_nil) (pa_cons (pe_tup (pa_cons (pe_tup pa_nil) (pa_cons pe_int pa_nil))) pa_nil))) (pa_cons pe_bl pa_nil)))))))))))) tPL_ok)) 
    (pss_cons (ps_set (i := 4) sc_law_refused.nd rfl (.inl rfl) (pe_ix ix_list (pv 4) (pe_c0 GPick hr (by decide) rfl (pa_cons (pv 0) (pa_cons (pe_callB call_len_seq (by rfl) T0.len PySem.boot_len (pa_cons (pv 4) pa_nil)) pa_nil))) (fun _ _ => rfl))) 
    (pss_cons (ps_set (i := 5) sc_law_refused.nd rfl (.inl rfl) (pe_callB call_len_seq (by rfl) T0.len PySem.boot_len (pa_cons (pv 3) pa_nil))) 
    (pss_cons (ps_set (i := 6) sc_law_refused.nd rfl (.inl rfl) (pe_ix ix_list (pe_conv (t' := tPL K _) (pe_lst (pa_cons (pe_un un_neg pe_int) (pa_cons (pv 5) (pa_cons (pe_op op_add (pv 5) pe_int) (pa_cons pe_bl (pa_cons pe_bl (pa_cons pe_non (pa_cons pe_str (pa_cons (pe_tup (pa_cons pe_int pa_nil)) (pa_cons (pe_op op_sub pe_int (pv 5)) pa_nil)))))))))) tPL_ok) (pe_c0 GPick hr (by decide) rfl (pa_cons (pv 0) (pa_cons pe_int pa_nil))) (fun _ _ => rfl))) 
    (pss_cons (ps_set (i := 7) sc_law_refused.nd rfl (.inl rfl) (pe_c0 GPick hr (by decide) rfl (pa_cons (pv 0) (pa_cons (pv 5) pa_nil)))) 
    (pss_cons (ps_set (i := 8) sc_law_refused.nd rfl (.inl rfl) (pe_cmpR op_eq (pe_c0 GPick hr (by decide) rfl (pa_cons (pv 0) (pa_cons pe_int pa_nil))) pe_int (nomark _))) 
    (pss_cons (ps_for PassesOwn.never rfl (pi_range1 (by rfl) T0.range (pa_cons pe_int pa_nil)) (pg_name (i := 9) sc_law_refused.nd rfl (Or.inl rfl)) 
      (pss_cons (ps_set (i := 10) sc_law_refused.nd rfl (.inl rfl) (pe_c0 GBadStory hr (by decide) rfl (pa_cons (pv 0) (pa_cons (pv 3) (pa_cons (pv 2) pa_nil))))) 
      (pss_one (ps_if (pt_not (pt_val (pe_c0 GSame hr (by decide) rfl (pa_cons (pe_c0 GTold hr (by decide) rfl (pa_cons (pv 1) (pa_cons (pv 10) (pa_cons (pe_ix ix_list (pe_conv (t' := tPL K _) (pe_lst (pa_cons (pv 7) (pa_cons (pv 6) pa_nil))) tPL_ok) (pe_c0 GPick hr (by decide) rfl (pa_cons (pv 0) (pa_cons pe_int pa_nil))) (fun _ _ => rfl)) (pa_cons (pv 8) pa_nil))))) (pa_cons (pe_conv (t' := tPV K _) (pe_tup (pa_cons pe_str (pa_cons pe_str (pa_cons (pe_un un_neg pe_int) pa_nil)))) tPV_ok) pa_nil))))) 
        (pss_one (ps_ret pe_bl)) pss_nil)))) 
    (pss_cons (ps_if (pt_not (pt_val (pe_c0 GSame hr (by decide) rfl (pa_cons (pe_c0 GTold hr (by decide) rfl (pa_cons (pv 4) (pa_cons (pe_ix ix_list (pe_conv (t' := tPL K _) (pe_lst (pa_cons (pv 2) (pa_cons (pv 10) pa_nil))) tPL_ok) (pe_c0 GPick hr (by decide) rfl (pa_cons (pv 0) (pa_cons pe_int pa_nil))) (fun _ _ => rfl)) (pa_cons (pv 7) (pa_cons (pv 8) pa_nil))))) (pa_cons (pe_conv (t' := tPV K _) (pe_tup (pa_cons pe_str (pa_cons pe_str (pa_cons (pe_un un_neg pe_int) pa_nil)))) tPV_ok) pa_nil))))) 
      (pss_one (ps_ret pe_bl)) pss_nil) 
    (pss_one (ps_ret (pe_c0 GSame hr (by decide) rfl (pa_cons (pe_c0 GTold hr (by decide) rfl (pa_cons (pv 1) (pa_cons (pv 2) (pa_cons (pv 6) (pa_cons (pv 8) pa_nil))))) (pa_cons (pe_conv (t' := tPV K _) (pe_tup (pa_cons pe_str (pa_cons pe_str (pa_cons (pe_un un_neg pe_int) pa_nil)))) tPV_ok) pa_nil))))))))))))), ?_⟩
  have hsl := sizeLine_eq
  have hnp := T.nodes_pos
  have gS : ∀ {H1 H2 : Hp}, Rn K tp ca H1 H2 → GoD S H1 H2 := fun r => r.g.d hS
  have hrl := hrw.len
  have evl : (es.map evD).length = es.length := List.length_map ..
  have evok : ∀ e ∈ es.map evD, EvOk e := fun e he => by
    obtain ⟨y, hy, rfl⟩ := List.mem_map.mp he
    exact evok_evD (hst.ev y hy) hht
  have evgood : evsOf T (.tuple (es.map evD)) = true := by
    have := evsOf_ev (T := T) (es := es.map fun e => (e, none)) fun x hx => by
      obtain ⟨e, he, rfl⟩ := List.mem_map.mp hx
      exact hst.ev e he
    rw [List.map_map, numsE_nos, List.map_map] at this
    have e1 : es.map ((fun x : Evt × Gone => evD x.1) ∘ fun e => (e, none)) = es.map evD := rfl
    have e2 : es.map ((fun x : Evt × Gone => x.1) ∘ fun e => (e, (none : Gone))) = es := List.map_id es
    rw [e1, e2] at this
    rw [this]
    exact decide_eq_true hst.nd
  have all : ∀ {ds : List PyData}, ds.length ≤ 1000 → (∀ e ∈ ds, EvOk e) → ∀ ds', PyData.tuple ds = .tuple ds' → ds'.length ≤ 1000 ∧ ∀ e ∈ ds', EvOk e := fun h1 h2 ds' e => by
    injection e with e
    rw [← e]
    exact ⟨h1, h2⟩
  have vU : ∀ {H' σ}, InD S H' → PV K S (tTup tNil) σ H' unitD := fun h => pv_tup h pvs_nil (by decide)
  have vU7 : ∀ {H' σ}, InD S H' → PV K S (tOp (rRepT K) (tTup (tCons (tTup tNil) tNil)) (tC (.int 7))) σ H' (.tuple (List.replicate 7 [unitD]).flatten) := fun h => pv_rep h (pv_t1 h (vU h)) (fun z => nomatch z) (by decide) (n := 7) (by decide) (by decide)
  refine ⟨S, oddsD, pl_lst hin (pvs_cons pv_non (pvs_cons (pv_lst hin pvs_nil (by decide)) (pvs_cons (pv_lst hin (pvs_cons (vU hin) pvs_nil) (by show 1 ≤ 1000; decide)) (pvs_cons (pv_t1 hin (pv_lst hin pvs_nil (by decide))) (pvs_cons (pv_t2 hin (vU hin) pv_non) (pvs_cons pv_str (pvs_cons pv_int (pvs_cons (vU7 hin) (pvs_cons (pv_t2 hin (vU7 hin) (vU hin)) (pvs_cons (pv_t2 hin (vU hin) (pv_t2 hin (vU hin) pv_int)) (pvs_cons pv_bl pvs_nil))))))))))) (by show 11 ≤ 1000; decide), fun ov H1 s1 hov => ?_⟩
  have hov' := hov
  obtain ⟨ol, oxs, rfl, q1, q2⟩ := hov'
  have hol : oxs.length = 11 := dps_len q2
  have R1 : Rn K tp ca H H1 := Rn.of hT s1
  refine ⟨_, rfl, _, rfl, _, rfl, ol, oxs, rfl, .inl (SqL.of (offS_some q1).2), tp, ca, 11, by rw [hol]; rfl, R1.b, by decide, by decide, fun H2 c hc R2 => ?_⟩
  have hcl : oddsD[c]? = some (oddsD[c]'hc) := List.getElem?_eq_getElem _
  generalize oddsD[c]'hc = od at hcl
  have hod := odds_bad od (List.mem_of_getElem? hcl)
  refine (hov.go (gS R2)).ix hcl fun odv hodv => ?_
  have R12 := R1.trans R2
  have ln2 := (offS_some (gS R12 _ _ hrw.ln)).2
  refine ⟨_, rfl, sp, _, rfl, .inl (SqL.of ln2), ?_⟩
  have enn : (((RB.map fun x => V.ref x.1).length : Nat) : Int) = ((T.nodes : Nat) : Int) := by rw [List.length_map, hrl]
  rw [enn]
  have in2 : InD S H2 := fun y hy => R12.g.k y (hin y hy)
  refine ⟨S, awayD T.nodes, pl_lst in2 (pvs_cons (pv_n (pn_neg pn_c)) (pvs_cons (pv_n (pn_v rfl)) (pvs_cons (pv_n (pn_add (pn_v rfl) pn_c)) (pvs_cons pv_bl (pvs_cons pv_bl (pvs_cons pv_non (pvs_cons pv_str (pvs_cons (pv_t1 in2 pv_int) (pvs_cons (pv_n (pn_sub pn_c (pn_v rfl))) pvs_nil))))))))) (by show 9 ≤ 1000; decide), fun av H3 s3 hav => ?_⟩
  have R13 := R12.same s3
  refine ⟨_, rfl, tp, ca, 9, rfl, R13.b, by decide, by decide, fun H4 c2 hc2 R4 => ?_⟩
  have hcl2 : (awayD T.nodes)[c2]? = some ((awayD T.nodes)[c2]'hc2) := List.getElem?_eq_getElem _
  generalize (awayD T.nodes)[c2]'hc2 = ad0 at hcl2
  have haw := away_bad hnp ad0 (List.mem_of_getElem? hcl2)
  refine (hav.go (gS R4)).ix hcl2 fun awv hawv => ?_
  have R14 := R13.trans R4
  refine ⟨_, rfl, _, rfl, tp, ca, T.nodes, rfl, R14.b, hnp, by omega, fun H5 spt hspt R5 => ?_⟩
  refine ⟨_, rfl, tp, ca, 2, rfl, R5.b, by decide, by decide, fun H6 nm0 hnm R6 => ?_⟩
  refine ⟨rfl, ?_⟩
  obtain ⟨nb, hnb⟩ : ∃ nb : Bool, nb = decide (V.int (nm0 : Nat) = V.int 0) := ⟨_, rfl⟩
  rw [← hnb]
  have R16 := R14.trans (R5.trans R6)
  have toldBad : ∀ {H' : Hp} {Q : VK} {E : XK} {bv nv : V} {d : PyData} {o : Option Int}, Rn K tp ca H H' → Dp K (offS S H') bv d → BadOK T d → NumV K H' nv o → Refd K H' Q "events" → spToldB K [fv, bv, nv, .bl nb] H' Q E := fun {H' Q E bv nv d o} R hd ok hn r =>
    ⟨fv, bv, nv, nb, T, d, o, rfl, shv_dtv (same_shv (Same.trans (gS R) offS_same) hfv), hsz, dp_onS hd, ok.2, hn, (fun z => nomatch hgd.symm.trans z), fun _ => ⟨hht, hno, (fun _ => r), (fun z => nomatch ok.1.symm.trans z), fun z => nomatch ok.1.symm.trans z⟩⟩
  have finR : ∀ {H' : Hp} {Q : VK} {σ : L2.St} {z : Str}, InD S H' → (∀ (tv : V) H9, Same H' H9 → Dp K (offS S H9) tv (refD z) → Q tv H9) → tPV K (tTup (tCons (tC (.str "refused")) (tCons (tC (.str z)) (tCons (tUn (rU fun i => .int (-i)) (tC (.int 1))) tNil)))) σ H' Q := fun {H' Q σ z} hi g => ⟨S, refD z, pv_tup hi (pvs_cons pv_str (pvs_cons pv_str (pvs_cons (pv_n (pn_neg pn_c)) pvs_nil))) (by show 3 ≤ 1000; decide), g⟩
  have inR : ∀ {H' : Hp}, Rn K tp ca H H' → InD S H' := fun R y hy => R.g.k y (hin y hy)
  have num2 : ∀ {H' : Hp}, Same H4 H' ∨ True → NumV K H' (.int (spt : Nat)) (some (spt : Nat)) := fun _ => rfl
  refine ⟨4, rfl, by decide, by decide, for_range (lo := 0) (n := 4) (fun i σ H' => ∃ (o9 o10 : Option V), σ = [some (.ref tp), some fv, some (.ref a), some (.ref sp), some odv, some (.int (T.nodes : Nat)), some awv, some (.int (spt : Nat)), some (.bl nb), o9, o10] ∧ Rn K tp ca H6 H' ∧ (0 < i → ∃ bv d, o10 = some bv ∧ Dp K (offS S H') bv d ∧ BadOK T d)) ⟨none, none, rfl, Rn.refl R6.b, fun z => absurd z (Nat.lt_irrefl 0)⟩ ?_ ?_⟩
  · rintro i σ H7 hi ⟨o9, o10, rfl, R7, _⟩
    have R07 := R16.trans R7
    refine ⟨_, rfl, _, rfl, _, rfl, tp, ca, sp, a, S, T, RB, es, rfl, R7.b, hS, inR R07, hrw.same (gS R07), dp_same (gS R07) hA, hst.ev, hel, hht, by omega, fun H8 bv d R8 hbv hbd => ?_⟩
    have R08 := R07.trans R8
    have R68 := R7.trans R8
    have in8 := inR R08
    have haw8 : Dp K (offS S H8) awv ad0 := dp_same (gS ((R5.trans R6).trans R68)) hawv
    refine ⟨_, rfl, _, rfl, S, [.int (spt : Nat), ad0], pl_lst in8 (pvs_cons (pv_n (pn_v rfl)) (pvs_cons (pv_var rfl haw8) pvs_nil)) (by show 2 ≤ 1000; decide), fun lv' H9 s9 hlv => ?_⟩
    have R09 := R08.same s9
    refine ⟨_, rfl, tp, ca, 2, rfl, R09.b, by decide, by decide, fun H10 c hc R10 => ?_⟩
    have R010 := R09.trans R10
    have hcl3 : ([.int (spt : Nat), ad0] : List PyData)[c]? = some (([.int (spt : Nat), ad0] : List PyData)[c]'hc) := List.getElem?_eq_getElem _
    generalize ([.int (spt : Nat), ad0] : List PyData)[c]'hc = nd at hcl3
    refine (hlv.go (gS R10)).ix hcl3 fun nv hnv => ?_
    have hbv10 := dp_same (gS ((Rn.of R8.b s9).trans R10)) hbv
    refine ⟨_, rfl, toldBad (E := E) R010 hbv10 hbd (num_dp (dp_onS hnv)) fun r H11 s11 _ hr11 => ?_⟩
    have R011 := R010.same s11
    refine finR (inR R011) fun tv H12 s12 htv => ?_
    refine ⟨.ref r, tv, refD "events", rfl, dp_same s12 (ref_dp hr11), dp_onS htv, ref_plain _, fun H13 s13 => ?_⟩
    refine ⟨_, rfl, iteF ?_⟩
    have R813 : Rn K tp ca H8 H13 := ((Rn.of R8.b s9).trans R10).same (s11.trans (s12.trans s13))
    exact ⟨_, _, rfl, R68.trans R813, fun _ => ⟨bv, d, rfl, dp_same (gS R813) hbv, hbd⟩⟩
  · rintro σ H7 ⟨o9, o10, rfl, R7, hb⟩
    obtain ⟨bv, d, rfl, hbv, hbd⟩ := hb (by decide)
    have R07 := R16.trans R7
    have in7 := inR R07
    have hA7 := dp_same (gS R07) hA
    have haw7 : Dp K (offS S H7) awv ad0 := dp_same (gS ((R5.trans R6).trans R7)) hawv
    have hod7 : Dp K (offS S H7) odv od := dp_same (gS ((R12.a |> fun _ => (Rn.of R2.b s3)).trans (R4.trans ((R5.trans R6).trans R7)))) hodv
    refine ⟨_, rfl, S, [.tuple (es.map evD), d], pl_lst in7 (pvs_cons (pv_var rfl hA7) (pvs_cons (pv_var rfl hbv) pvs_nil)) (by show 2 ≤ 1000; decide), fun lv' H9 s9 hlv => ?_⟩
    have R09 := R07.same s9
    refine ⟨_, rfl, tp, ca, 2, rfl, R09.b, by decide, by decide, fun H10 c hc R10 => ?_⟩
    have R010 := R09.trans R10
    have R710 : Rn K tp ca H7 H10 := (Rn.of R7.b s9).trans R10
    have hcl3 : ([.tuple (es.map evD), d] : List PyData)[c]? = some (([.tuple (es.map evD), d] : List PyData)[c]'hc) := List.getElem?_eq_getElem _
    generalize ([.tuple (es.map evD), d] : List PyData)[c]'hc = ed at hcl3
    have hok : ∀ ds, ed = .tuple ds → ds.length ≤ 1000 ∧ ∀ e ∈ ds, EvOk e := by
      have hm := List.mem_of_getElem? hcl3
      simp only [List.mem_cons, List.not_mem_nil, or_false] at hm
      rcases hm with rfl | rfl
      · exact all (by rw [evl]; omega) evok
      · exact hbd.2
    refine (hlv.go (gS R10)).ix hcl3 fun ev hev => ?_
    refine ⟨_, rfl, _, rfl, odv, ev, .int (spt : Nat), nb, dtOf od, ed, some (spt : Nat), rfl, dtv_of (dp_onS (dp_same (gS R710) hod7)), hod.2, dp_onS hev, hok, rfl, (fun _ r H11 s11 _ hr11 => ?_), fun z => nomatch hod.1.symm.trans z⟩
    have R011 := R010.same s11
    refine finR (inR R011) fun tv H12 s12 htv => ?_
    refine ⟨.ref r, tv, refD "form", rfl, dp_same s12 (ref_dp hr11), dp_onS htv, ref_plain _, fun H13 s13 => ?_⟩
    refine ⟨_, rfl, iteF ?_⟩
    have R713 : Rn K tp ca H7 H13 := R710.same (s11.trans (s12.trans s13))
    have R013 := R07.trans R713
    refine ⟨_, rfl, _, rfl, _, rfl, _, rfl, fv, .ref a, awv, nb, T, _, numOf ad0, rfl, shv_dtv (same_shv (Same.trans (gS R013) offS_same) hfv), hsz, dp_onS (dp_same (gS R713) hA7), all (by rw [evl]; omega) evok, num_dp (dp_onS (dp_same (gS R713) haw7)), (fun z => nomatch hgd.symm.trans z), fun _ => ⟨hht, hno, (fun z => nomatch evgood.symm.trans z), (fun _ _ r H14 s14 _ hr14 => ?_), fun _ q0 u0 e0 hu0 => ?_⟩⟩
    · have R014 := R013.same s14
      refine finR (inR R014) fun tv H15 s15 htv => ?_
      exact ⟨.ref r, tv, refD "node", rfl, dp_same s15 (ref_dp hr14), dp_onS htv, ref_plain _, fun H16 s16 => q H16 (R014.same (s15.trans s16))⟩
    · have h1 := below_idx hu0
      have e1 : numOf ad0 = some ((T.idx q0 : Nat) : Int) := e0
      rw [← e1, haw] at h1
      exact nomatch h1
end
end K65
set_option Elab.async false
set_option linter.all false
set_option maxRecDepth 100000
set_option maxHeartbeats 8000000
namespace K65
open PySem PySem.Spec PyProof.Rows L2 Dt
/-! ### play_events beside cells that change later -/
def spPlayM (K : PySem.W.Frag) (C CS U : Addr) : Sp := fun vs H Q E => ∃ (M : List Addr) (fv ev : V) (t : Dt) (d : PyData), vs = [fv, ev] ∧ (∀ y ∈ M, ∃ o, H y = some o ∧ LDc o) ∧ DtV K H fv t ∧ t.size ≤ 100000 ∧ Dp K H ev d ∧ (∀ ds, d = .tuple ds → ds.length ≤ 1000 ∧ ∀ e ∈ ds, EvOk e) ∧ (t.good 1 = false → ∀ H', Same H H' → Out U "form" H' E) ∧
  (t.good 1 = true → t.ht ≤ 15 ∧ t.nodes ≤ 64 ∧ (evsOf t d = false → ∀ H', Same H H' → Out U "events" H' E) ∧
    (evsOf t d = true → ∃ (es : List (Evt × Gone)) (L' : Lns), d = .tuple (es.map fun e => evD e.1) ∧ es.length ≤ 90 ∧ Run t (fun _ => []) es L' ∧
      ∀ H' r tl dl a ta la sd Ls kv, Same H H' → H r = none → H' r = some (.tup [.ref tl, .ref a]) → H' tl = some (.tup (gonesV es)) → SJ K C CS (dl :: ((sd :: Ls) ++ M)) H' a ta la sd Ls t L' kv 100 → (∀ y ∈ dl :: sd :: Ls, H y = none) → H a = none → H tl = none → Q (.ref r) H'))
/-- .. without an error -/
def spPlayQ (K : PySem.W.Frag) (C CS : Addr) : Sp := fun vs H Q _ => ∃ (M : List Addr) (fv ev : V) (t : Dt) (es : List (Evt × Gone)) (L' : Lns), vs = [fv, ev] ∧ (∀ y ∈ M, ∃ o, H y = some o ∧ LDc o) ∧ DtV K H fv t ∧ t.size ≤ 100000 ∧ t.good 1 = true ∧ t.ht ≤ 15 ∧ t.nodes ≤ 64 ∧ Dp K H ev (.tuple (evDs es)) ∧ es.length ≤ 90 ∧ Run t (fun _ => []) es L' ∧ (numsE es).Nodup ∧
  ∀ H' r tl dl a ta la sd Ls kv, Same H H' → H r = none → H' r = some (.tup [.ref tl, .ref a]) → H' tl = some (.tup (gonesV es)) → SJ K C CS (dl :: ((sd :: Ls) ++ M)) H' a ta la sd Ls t L' kv 100 → (∀ y ∈ dl :: sd :: Ls, H y = none) → H a = none → H tl = none → Q (.ref r) H'
def spBoughQ (K : PySem.W.Frag) (C CS : Addr) : Sp := fun vs H Q _ => ∃ (a ta la sd : Addr) (S Ls : List Addr) (T u : Dt) (q : Ad) (L : Lns) (kv : List (Key × V)), vs = [.ref a, .int (T.idx q : Nat)] ∧ StE K C CS S H a ta la sd Ls T L kv ∧ LnsOK T L kv ∧ sub T q = some u ∧ u.size ≤ 100000 ∧
  ∀ H' a' ta' la' sd' Ls' kv', Same H H' → StE K C CS (sd' :: Ls') H' a' ta' la' sd' Ls' u (at_ q L) kv' → Q (.ref a') H'
theorem dp_keepT {K : PySem.W.Frag} {H H' : Hp} {v : V} (k : KeepT H H') : ∀ {d : PyData}, Dp K H v d → ∀ rs : List (List Int), d = .tuple (rs.map intsD) → Dp K H' v d := fun {d} h rs e => by
  subst e
  have h1 : DpAll K H [v] [.tuple (rs.map intsD)] := .cons h .nil
  have h2 : DpAll K H' [v] [.tuple (rs.map intsD)] := dps_keep k h1 (by
    unfold noLs
    unfold noL
    rw [noL_ranks]
    unfold noLs
    rfl)
  cases h2 with
  | cons g _ => exact g
section
variable {P : Program} {w : World} {K : PySem.W.Frag} {mg : Str → Option Value} {base : Heap} {C CS U fG : Addr}
theorem ok_playM {fS : Addr} {fdS : FuncData} (D : DefAt K mg "play_events" s_play_events ["form", "events"]) (T0 : Txt K mg) (SC : StCl K CS) (MS : Mk K CS fS) (gS : mg "Standing" = some (.ref CS)) (bS : Binds K fdS ["self", "form"] []) (FS : FnOk P w K mg base CX0 24 fS fdS ["self", "form"] (spMadeQ K C CS))
    (GShapeTree : CalX P w K mg base (L2.CX P w) 23 "shape_tree" ["form", "word"] (spShapeTree K C U)) (GNeed : CalX P w K mg base (L2.CX P w) 3 "need" ["fits", "word"] (spNeed U)) (GAreEvents : CalX P w K mg base CX0 6 "are_events" ["tree", "thing"] (spEvents K C)) (GPacketGone : CalX P w K mg base CX0 6 "packet_gone" ["standing"] (spGone K C CS))
    (MPush : MQ P w K mg base CS 5 "push" ["self", "number", "queue", "ranks"] (spPushQ K C CS)) : CalX P w K mg base (L2.CX P w) 26 "play_events" ["form", "events"] (spPlayM K C CS U) := by
  refine D.okX sc_play_events (fun vs H Q E h => ?_) (fun f cdv A outer s H vs Q E hr h => ?_)
  · obtain ⟨M, fv, ev, t, d, rfl, _⟩ := h
    rfl
  obtain ⟨M, fv, ev, t, d, rfl, hM, hfv, hsz, hev, hok, q1, q2⟩ := h
  refine ⟨_, (pss_cons (ps_expr (pe_cx GNeed hr (by decide) rfl (passes_call (takes_of rfl rfl rfl rfl) (fun _ _ _ _ h => h)) (pa_cons (pe_c0 GAreEvents hr (by decide) rfl (pa_cons (pe_cx GShapeTree hr (by decide) rfl (passes_call (takes_of rfl rfl rfl rfl) (fun _ _ _ _ h => h)) (pa_cons (pv 0) (pa_cons pe_str pa_nil))) (pa_cons (pv 1) pa_nil))) (pa_cons pe_str pa_nil)))) 
    (pss_cons (ps_set (i := 2) sc_play_events.nd rfl (.inl rfl) (pe_make MS FS (hr.mono (by decide)) rfl gS bS .nil pass0 (pa_cons (pv 0) pa_nil))) 
    (pss_cons (ps_set (i := 3) sc_play_events.nd rfl (.inl rfl) (pe_lst pa_nil)) 
    (pss_cons (ps_for (passes_of rfl) rfl (pi_tup (pv 1)) (pg_name (i := 4) sc_play_events.nd rfl (Or.inl rfl)) 
      (pss_one (ps_if (pt_cmpR op_eq (pe_ix ix_tup (pv 4) pe_int (fun _ _ => rfl)) pe_str (nomark _)) 
        (pss_one (ps_expr (pe_m1 (pv 2) SC.cl MPush hr (by decide) (pa_cons (pe_ix ix_tup (pv 4) pe_int (fun _ _ => rfl)) (pa_cons (pe_ix ix_tup (pv 4) pe_int (fun _ _ => rfl)) (pa_cons (pe_ix ix_tup (pv 4) pe_int (fun _ _ => rfl)) pa_nil)))))) 
        (pss_one (ps_expr (pe_bm PySem.F.plainAttrs_list PySem.F.slot_list_append PySem.F.type_list_append mt_append (pv 3) (pa_cons (pe_c0 GPacketGone hr (by decide) rfl (pa_cons (pv 2) pa_nil)) pa_nil))))))) 
    (pss_one (ps_ret (pe_tup (pa_cons (pe_callTy call_tuple_of (by rfl) T0.tuple PyProof.Rows.boot_tuple (pa_cons (pv 3) pa_nil)) (pa_cons (pv 2) pa_nil))))))))), ?_⟩
  have hsl := sizeLine_eq
  refine ⟨_, rfl, fv, t, "form", rfl, hfv, hsz, fun g => ?_, fun g H1 s1 => q1 g H1 s1⟩
  obtain ⟨hht, hnd, q3, q4⟩ := q2 g
  refine ⟨by omega, by omega, fun ta0 H1 _ s1 tn0 hta0 tr0 => ?_⟩
  refine ⟨_, rfl, ta0, ev, t, d, rfl, tr0, dp_same s1 hev, hok, fun H2 s2 => ⟨_, "events", rfl, fun eb => ?_, fun eb => q3 eb H2 (s1.trans s2)⟩⟩
  obtain ⟨es, L', rfl, hel, run, q5⟩ := q4 eb
  have s12 := s1.trans s2
  refine ⟨_, rfl, fun a dx ha hdx hne => ?_⟩
  have s0 : Same H2 (upd (upd H2 dx (.own a)) a (.ins CS dx [])) := fun y o h => by rw [upd_ne (ne_of_none h ha), upd_ne (ne_of_none h hdx)]; exact h
  refine ⟨a, dx, fv, t, rfl, upd_same, same_dtv (s12.trans s0) hfv, hsz, g, by omega, by omega, fun H3 ta la sd Ls st tn fr fresh => ⟨rfl, ?_⟩⟩
  have s3 : Same H2 H3 := fun y o h => fr y o (s0 y o h) (ne_of_none h ha)
  have fresh2 : ∀ y ∈ sd :: Ls, H2 y = none := fun y hy => s0.free (fresh y hy)
  have s03 := s12.trans s3
  refine ⟨(by show 0 ≤ sizeLine; decide), fun dl hdl => ?_⟩
  have hdl0 := s03.free hdl
  have stM := st.beside (M := M) tn (fun y hy => by obtain ⟨o, e, _⟩ := hM y hy; rw [s0 _ _ (s12 _ _ e)]; exact fun z => nomatch z) (fun y hy => by obtain ⟨o, e, g⟩ := hM y hy; exact ⟨o, s03 _ _ e, g⟩)
  have sj3 : SJ K C CS ((sd :: Ls) ++ M) H3 a ta la sd Ls t (fun _ => []) [] 0 := ⟨stM, ⟨(fun q w _ _ e h => nomatch h), fun q w j _ _ => rfl⟩, ⟨(fun n i p _ h => nomatch h), (fun k v h => nomatch h), fun p _ => List.Pairwise.nil⟩, g, by omega, by omega, hsz, (fun q => Nat.le_refl _), by decide, Nat.zero_le _⟩
  have hdlS : dl ∉ sd :: Ls := fun z => by
    have := sj3.st.al dl (List.mem_append_left _ z)
    exact this hdl
  have s3d : Same H3 (upd H3 dl (.lst [])) := same_new hdl
  have sj3d : SJ K C CS (dl :: ((sd :: Ls) ++ M)) (upd H3 dl (.lst [])) a ta la sd Ls t (fun _ => []) [] 0 := ⟨sj3.st.grow (N := [dl]) s3d (fun y hy => by rw [List.mem_singleton.mp hy]; exact hdl) (fun y hy => by rw [List.mem_singleton.mp hy, upd_same]; exact fun z => nomatch z), sj3.con, sj3.se, sj3.gd, sj3.ht, sj3.nd, sj3.sm, sj3.sz, sj3.m9, sj3.kz⟩
  cases hev with
  | @tup eb' evs _ heb hevs =>
  have hevl := dps_len hevs
  rw [List.length_map] at hevl
  have heb3 := same_sqt s03 heb
  have hevs3 := dps_same s03 hevs
  -- the events are tuples, whose places do not change
  have hebS : ∀ {b : Addr} {zs : List V}, SqT K H b zs → ∀ {H'}, GoS (dl :: sd :: Ls) H3 H' → SqT K H' b zs := fun {b zs} h {H'} gg => by
    have hk : ∀ {o}, H b = some o → H' b = some o := fun {o} e => by
      refine gg.at (s03 _ _ e) fun z => ?_
      rcases List.mem_cons.mp z with z | z
      · rw [z, hdl0] at e
        exact nomatch e
      · rw [s12.free (fresh2 b z)] at e
        exact nomatch e
    rcases h with (h | ⟨o, h⟩) | h
    · exact .inl (.inl (hk h))
    · exact .inl (.inr ⟨o, hk h⟩)
    · exact .inr h
  have offE : ∀ {H'}, GoS (dl :: sd :: Ls) H3 H' → ∀ y o, H y = some o → offS (dl :: sd :: Ls) H' y = some o := fun {H'} gg y o e => by
    have n1 : y ∉ dl :: sd :: Ls := fun z => by
      rcases List.mem_cons.mp z with z | z
      · rw [z, hdl0] at e
        exact nomatch e
      · rw [s12.free (fresh2 y z)] at e
        exact nomatch e
    rw [offS_ne n1]
    exact gg.at (s03 _ _ e) n1
  have keepE : ∀ {H'}, GoS (dl :: sd :: Ls) H3 H' → KeepT H (offS (dl :: ((sd :: Ls) ++ M)) H') := fun {H'} gg => by
    have off : ∀ {y o}, H y = some o → ¬ LDc o → offS (dl :: ((sd :: Ls) ++ M)) H' y = some o := fun {y o} e n => by
      have h1 := offE gg y o e
      obtain ⟨h2, h3⟩ := offS_some h1
      rw [offS_ne (fun z => ?_)]
      · exact h3
      · rcases List.mem_cons.mp z with z | z
        · exact h2 (by rw [z]; exact List.mem_cons_self ..)
        · rcases List.mem_append.mp z with z | z
          · exact h2 (List.mem_cons_of_mem _ z)
          · obtain ⟨o', e', l⟩ := hM y z
            rw [e] at e'
            rw [Option.some.inj e'] at n
            exact n l
    exact fun y ys => ⟨fun h => off h (fun z => by rcases z with ⟨_, z⟩ | ⟨_, z⟩ <;> exact nomatch z), fun o h => off h (fun z => by rcases z with ⟨_, z⟩ | ⟨_, z⟩ <;> exact nomatch z)⟩
  refine ⟨_, rfl, eb', rfl, ⟨_, same_sqt (same_new hdl) heb3⟩, ?_⟩
  refine for_tup (K := K) (a := eb') (xs := evs) (fun i σ H' => ∃ (Lc : Lns) (kv : List (Key × V)) (o4 : Option V), σ = [some fv, some (.ref eb'), some (.ref a), some (.ref dl), o4] ∧ GoS (dl :: sd :: Ls) H3 H' ∧ H' dl = some (.lst (gonesV (es.take i))) ∧ SJ K C CS (dl :: ((sd :: Ls) ++ M)) H' a ta la sd Ls t Lc kv i ∧ Run t Lc (es.drop i) L')
    ⟨_, _, _, rfl, (GoS.of (same_new hdl)), upd_same, sj3d, run⟩ (fun i σ H' _ ⟨_, _, _, _, gg, _⟩ => hebS heb gg) ?_ ?_
  · rintro i x σ H4 hx ⟨Lc, kv, o4, rfl, g4, hd4, sj4, run4⟩
    have hil := (List.getElem?_eq_some_iff.mp hx).1
    rw [hevl] at hil
    have ee : es.drop i = es[i] :: es.drop (i + 1) := List.drop_eq_getElem_cons hil
    have etk : es.take (i + 1) = es.take i ++ [es[i]] := List.take_succ_eq_append_getElem hil
    obtain ⟨dx0, hx1, hx2⟩ := dps_at hevs hx
    rw [List.getElem?_map, List.getElem?_eq_getElem hil] at hx1
    obtain rfl := Option.some.inj hx1
    rw [ee] at run4
    generalize es[i] = e at ee etk run4 hx2
    obtain ⟨L1, st1, run5⟩ := run_cons run4
    obtain ⟨e, o⟩ := e
    have egon : gonesV (es.take (i + 1)) = gonesV (es.take i) ++ goneV (e, o) := by
      rw [etk]
      unfold gonesV
      rw [List.flatMap_append]
      simp
    have hgl := gonesV_len (es.take i)
    rw [List.length_take] at hgl
    have sub2 : ∀ y ∈ sd :: Ls, y ∈ dl :: sd :: Ls := fun y hy => List.mem_cons_of_mem _ hy
    obtain ⟨dx4, hob4⟩ := sj4.st.obj
    cases e with
    | psh n qi rs =>
      obtain ⟨p, rfl, rfl, hp, hrl, hrk, n0, n1, hfr⟩ := step_psh st1
      have hx2' : Dp K H x (.tuple [.str "push", .int n, .int (qi : Nat), .tuple (rs.map intsD)]) := hx2
      cases hx2' with
      | @tup xb xs2 _ hxb hxs =>
      cases hxs with
      | @cons v1 _ _ _ e1 hxs =>
      cases hxs with
      | @cons v2 _ _ _ e2 hxs =>
      cases hxs with
      | @cons v3 _ _ _ e3 hxs =>
      cases hxs with
      | @cons v4 _ _ _ e4 hxs =>
      cases hxs
      cases e1
      cases e2
      cases e3
      have hxb4 := hebS hxb g4
      refine ⟨_, rfl, xb, _, 0, _, rfl, rfl, hxb4, atI_0 rfl, rfl, _, rfl, ?_⟩
      refine ite2 (fun _ => ?_) (fun c => absurd (decide_eq_true rfl) c)
      refine ⟨_, rfl, a, dx4, _, rfl, hob4, rfl, _, rfl, xb, _, 1, _, rfl, rfl, hxb4, atI_1 rfl, _, rfl, xb, _, 2, _, rfl, rfl, hxb4, atI_2 rfl, _, rfl, xb, _, 3, _, rfl, rfl, hxb4, atI_3 rfl, ?_⟩
      refine ⟨a, ta, la, sd, _, Ls, t, Lc, kv, n, qi, p, v4, rs, rfl, sj4.st, sj4.ht20, seat_absent sj4.se hfr, n0, n1, hp, dp_keepT (keepE g4) e4 rs rfl, hrl, hrk, sj4.sz', by have := sj4.kz; omega, fun H5 g5 st5 => ?_⟩
      refine ⟨_, _, _, rfl, g4.trans (g5.wide sub2), ?_, sj4.psh hp (seat_absent sj4.se hfr) (by omega) st5, run5⟩
      rw [egon]
      show _ = some (HO.lst (_ ++ []))
      rw [List.append_nil]
      exact g5.at hd4 hdlS
    | dep =>
      have hx2' : Dp K H x (.tuple [.str "depart"]) := hx2
      cases hx2' with
      | @tup xb xs2 _ hxb hxs =>
      cases hxs with
      | @cons v1 _ _ _ e1 hxs =>
      cases hxs
      cases e1
      have hxb4 := hebS hxb g4
      refine ⟨_, rfl, xb, _, 0, _, rfl, rfl, hxb4, atI_0 rfl, rfl, _, rfl, ?_⟩
      refine ite2 (fun c => ?_) (fun _ => ?_)
      · exact absurd (of_decide_eq_true c) (by decide +kernel)
      refine ⟨_, rfl, .inl ⟨rfl, _, SqL.of hd4⟩, _, rfl, a, ta, la, sd, _, Ls, t, Lc, kv, rfl, sj4.st, sj4.ht20, sj4.con, sj4.se, sj4.sz', fun he0 => ?_, fun n p rs qi dd hqi H5 g5 st5 => ?_⟩
      · rcases step_dep st1 with ⟨rfl, _, rfl⟩ | ⟨n, p, rs, qi, _, dd, _⟩
        · refine ⟨dl, _, _, rfl, rfl, hd4, small1000 (by omega), ?_⟩
          refine ⟨_, _, _, rfl, g4.upd (List.mem_cons_self ..), ?_, (sj4.keep (GoS.refl.upd (List.mem_singleton.mpr rfl) : GoS [dl] H4 _) (fun y hy => by rw [List.mem_singleton.mp hy]; exact List.mem_cons_self ..) (fun y hy => by rw [List.mem_singleton.mp hy]; exact hdlS)).mono (Nat.le_succ _) (by omega), run5⟩
          rw [egon]
          exact upd_same
        · exact absurd he0 (dep_ne dd)
      · rcases step_dep st1 with ⟨_, he0, _⟩ | ⟨n', p', rs', qi', rfl, dd', hqi', rfl⟩
        · exact absurd he0 (dep_ne dd)
        · obtain ⟨rfl, rfl, rfl⟩ := dep_det _ _ _ _ _ _ _ _ dd dd'
          have hd5 := g5.at hd4 hdlS
          have sj5 := sj4.cut dd st5
          refine ⟨dl, _, _, rfl, rfl, hd5, small1000 (by omega), ?_⟩
          refine ⟨_, _, _, rfl, (g4.trans (g5.wide sub2)).upd (List.mem_cons_self ..), ?_, (sj5.keep (GoS.refl.upd (List.mem_singleton.mpr rfl) : GoS [dl] H5 _) (fun y hy => by rw [List.mem_singleton.mp hy]; exact List.mem_cons_self ..) (fun y hy => by rw [List.mem_singleton.mp hy]; exact hdlS)).mono (Nat.le_succ _) (by omega), run5⟩
          rw [egon]
          exact upd_same
  · rintro σ H4 ⟨Lc, kv, o4, rfl, g4, hd4, sj4, run4⟩
    rw [hevl, List.drop_length] at run4
    rw [hevl, List.take_length] at hd4
    cases run4
    have hgl := gonesV_len es
    refine ⟨_, rfl, dl, _, rfl, .inl ⟨SqL.of hd4, fun tl htl => ⟨_, rfl, (by show 2 ≤ sizeLine; decide), fun r hr => ?_⟩⟩⟩
    have s5 : Same H4 (upd H4 tl (.tup (gonesV es))) := same_new htl
    have s6 := s5.trans (same_new (o := .tup [.ref tl, .ref a]) hr)
    have hfr : ∀ {y}, H4 y = none → H y = none := fun {y} h => s03.free (g4.free h)
    have all : Same H (upd (upd H4 tl (.tup (gonesV es))) r (.tup [.ref tl, .ref a])) := fun y o e => s6 _ _ (by
      have := offE g4 y o e
      exact (offS_some this).2)
    refine q5 _ r tl dl a ta la sd Ls _ all (hfr (s5.free hr)) upd_same ((same_new hr) _ _ upd_same) ((sj4.same s6).mono (by omega) (by decide)) (fun y hy => ?_) (s12.free ha) (hfr htl)
    rcases List.mem_cons.mp hy with z | z
    · rw [z]; exact hdl0
    · exact s12.free (fresh2 y z)
theorem evok_evDs {T : Dt} {es : List (Evt × Gone)} (h : ∀ x ∈ es, EvG T x.1) (hT : T.ht ≤ 15) (hl : es.length ≤ 1000) : ∀ ds, PyData.tuple (evDs es) = .tuple ds → ds.length ≤ 1000 ∧ ∀ e ∈ ds, EvOk e := fun ds e => by
  injection e with e
  rw [← e]
  unfold evDs
  refine ⟨by rw [List.length_map]; exact hl, fun d hd => ?_⟩
  obtain ⟨x, hx, rfl⟩ := List.mem_map.mp hd
  exact evok_evD (h x hx) hT
theorem playQ (G : CalX P w K mg base (L2.CX P w) 26 "play_events" ["form", "events"] (spPlayM K C CS U)) : CalX P w K mg base CX0 26 "play_events" ["form", "events"] (spPlayQ K C CS) := by
  refine cal_quiet G fun vs H Q E h => ?_
  obtain ⟨M, fv, ev, t, es, L', rfl, hM, hfv, hsz, hgd, hht, hnd, hev, hel, run, nd, q⟩ := h
  have hg := run_evg run
  have he : evsOf t (.tuple (evDs es)) = true := (evsOf_ev hg).trans (decide_eq_true nd)
  exact ⟨M, fv, ev, t, _, rfl, hM, hfv, hsz, hev, evok_evDs hg hht (by omega), (fun z => nomatch hgd.symm.trans z), fun _ => ⟨hht, hnd, (fun z => nomatch he.symm.trans z), fun _ => ⟨es, L', rfl, hel, run, q⟩⟩⟩
theorem boughQ (G : CalX P w K mg base (L2.CX P w) 27 "bough_standing" ["standing", "node"] (spBough K C CS U)) : CalX P w K mg base CX0 27 "bough_standing" ["standing", "node"] (spBoughQ K C CS) := by
  refine cal_quiet G fun vs H Q E h => ?_
  obtain ⟨a, ta, la, sd, S, Ls, T, u, q, L, kv, rfl, st, ok, hu, hsz, g⟩ := h
  refine ⟨.ref a, .int (T.idx q : Nat), true, rfl, stv_of st, (fun z => nomatch z), fun _ => ⟨a, ta, la, sd, S, Ls, T, L, kv, some ((T.idx q : Nat) : Int), rfl, st, ok, rfl, (fun z => nomatch (below_idx hu).symm.trans z), fun q' u' e hu' => ?_⟩⟩
  obtain ⟨rfl, rfl⟩ := idx_sub hu hu' e
  exact ⟨hsz, fun H' a' ta' la' sd' Ls' kv' s st' _ _ _ _ _ => g H' a' ta' la' sd' Ls' kv' s st'⟩
end
end K65
set_option Elab.async false
set_option linter.all false
set_option maxRecDepth 100000
set_option maxHeartbeats 8000000
namespace K65
open PySem PySem.Spec PyProof.Rows L2 Dt
/-! ### _law_bough: mathematics -/
theorem numsE_app (a b : List (Evt × Gone)) : numsE (a ++ b) = numsE a ++ numsE b := by
  unfold numsE
  rw [List.flatMap_append]
theorem numE_cut (T u : Dt) (q : Ad) (e : Evt × Gone) : (numsE (cutE T u q e)).Sublist (numE e) := by
  obtain ⟨e, o⟩ := e
  cases e with
  | psh n i rs =>
    show (numsE (if _ then [_] else [])).Sublist [n]
    split
    · exact List.Sublist.refl _
    · exact List.nil_sublist _
  | dep =>
    cases o with
    | none => exact List.nil_sublist _
    | some y =>
      obtain ⟨n, i, rs⟩ := y
      show (numsE (if _ then [_] else [])).Sublist []
      split
      · exact List.Sublist.refl _
      · exact List.nil_sublist _
theorem numsE_cut (T u : Dt) (q : Ad) : ∀ es : List (Evt × Gone), (numsE (cutEs T u q es)).Sublist (numsE es)
  | [] => List.Sublist.refl _
  | e :: es => by
    have e1 : cutEs T u q (e :: es) = cutE T u q e ++ cutEs T u q es := rfl
    have e2 : numsE (e :: es) = numE e ++ numsE es := rfl
    rw [e1, e2, numsE_app]
    exact (numE_cut T u q e).append (numsE_cut T u q es)
theorem numsE_fst : ∀ {es : List (Evt × Gone)}, numsE es = nosE (es.map (·.1)) := fun {es} => numsE_nos es
def leftF (i n : Nat) : PyData → List PyData
  | .tuple [y0, .int m] => if ((i : Nat) : Int) ≤ m ∧ m < ((i + n : Nat) : Int) then [y0] else []
  | _ => []
theorem left_one {T u : Dt} {q : Ad} (hu : sub T q = some u) {e : Evt × Gone} (h : GonG T e) : (goneT T e).flatMap (leftF (T.idx q) u.nodes) = gonesP (cutE T u q e) := by
  obtain ⟨e, o⟩ := e
  cases e with
  | psh n i rs =>
    show [] = gonesP (if _ then [_] else [])
    split <;> rfl
  | dep =>
    cases o with
    | none =>
      show leftF _ _ (.tuple [.none, .int (-1)]) ++ [] = []
      rw [List.append_nil]
      exact if_neg fun z => by omega
    | some y =>
      obtain ⟨n, i, rs⟩ := y
      obtain ⟨p, hp⟩ : ∃ p, (lv T)[i]? = some p := h
      obtain ⟨v, hv⟩ := ad_sub (lv_ad (List.mem_of_getElem? hp))
      have h1 := lv_in hu hp
      have h2 := ad_in hu hv
      have e : (lv T).getD i [] = p := by rw [List.getD_eq_getElem?_getD, hp]; rfl
      show leftF _ _ (.tuple [.int n, .int (T.idx ((lv T).getD i []) : Nat)]) ++ [] = gonesP (if _ then [_] else [])
      rw [List.append_nil, e]
      by_cases c : q <+: p
      · have a := h2.mpr c
        rw [if_pos (h1.mpr c)]
        exact if_pos ⟨by omega, by omega⟩
      · rw [if_neg fun z => c (h1.mp z)]
        exact if_neg fun z => c (h2.mp ⟨by omega, by omega⟩)
theorem left_cut {T u : Dt} {q : Ad} (hu : sub T q = some u) : ∀ ps : List (Evt × Gone), (∀ x ∈ ps, GonG T x) → (gonesT T ps).flatMap (leftF (T.idx q) u.nodes) = gonesP (cutEs T u q ps)
  | [], _ => rfl
  | e :: ps, h => by
    have e1 : gonesT T (e :: ps) = goneT T e ++ gonesT T ps := rfl
    have e2 : cutEs T u q (e :: ps) = cutE T u q e ++ cutEs T u q ps := rfl
    rw [e1, e2, List.flatMap_append, left_one hu (h e (List.mem_cons_self ..)), left_cut hu ps fun x hx => h x (List.mem_cons_of_mem _ hx)]
    unfold gonesP
    rw [List.flatMap_append]
/-- what a departure looks like -/
theorem gonesT_mem {T : Dt} {ps : List (Evt × Gone)} {d : PyData} (h : d ∈ gonesT T ps) : ∃ x m, d = .tuple [x, .int m] := by
  unfold gonesT at h
  obtain ⟨⟨e, o⟩, _, he⟩ := List.mem_flatMap.mp h
  cases e with
  | psh n i rs => cases he
  | dep =>
    cases o with
    | none => exact ⟨_, _, List.mem_singleton.mp he⟩
    | some y =>
      obtain ⟨n, i, rs⟩ := y
      exact ⟨_, _, List.mem_singleton.mp he⟩
theorem evDs_map (es : List (Evt × Gone)) : evDs es = (es.map (·.1)).map evD := by
  unfold evDs
  rw [List.map_map]
  rfl
theorem evDs_plain {T : Dt} {es : List (Evt × Gone)} (h : ∀ x ∈ es, EvG T x.1) (hT : T.ht ≤ 15) (hl : es.length ≤ 1000) : plainT 20 (.tuple (evDs es)) := by
  rw [evDs_map]
  exact pl_evs (fun e he => by
    obtain ⟨x, hx, rfl⟩ := List.mem_map.mp he
    exact h x hx) hT (by rw [List.length_map]; exact hl)
theorem lines_plain {u : Dt} {L : Lns} (hn : u.nodes ≤ 1000) (rk : ∀ q, RkOK (L q)) (sz : ∀ q, (L q).length ≤ 1000) : plainT 20 (linesD u L) := ⟨by rw [List.length_map, ad_len]; omega, fun d hd => by
  obtain ⟨p, _, rfl⟩ := List.mem_map.mp hd
  have := sz p
  refine ⟨by rw [List.length_map]; omega, fun d hd => ?_⟩
  obtain ⟨e, he, rfl⟩ := List.mem_map.mp hd
  refine ⟨(by show 2 ≤ 1000000; decide), fun d hd => ?_⟩
  simp only [List.mem_cons, List.not_mem_nil, or_false] at hd
  rcases hd with rfl | rfl
  · exact pl_ints 15 (by have := rank_len (rk p e he); omega)
  · trivial⟩
end K65
set_option Elab.async false
set_option linter.all false
set_option maxRecDepth 100000
set_option maxHeartbeats 8000000
namespace K65
open PySem PySem.Spec PyProof.Rows L2 Dt
/-! ### _law_bough -/
theorem size_kid : ∀ {T : Dt} {j : Nat} {k : Dt}, T.kids[j]? = some k → k.size ≤ T.size
  | .x, j, k, h => by cases j <;> exact nomatch h
  | .o, j, k, h => by cases j <;> exact nomatch h
  | .c a r, 0, k, h => by
    have e : a = k := Option.some.inj h
    rw [← e]
    show a.size ≤ a.size + r.size + 1
    omega
  | .c a r, j + 1, k, h => by
    have := size_kid (T := r) (j := j) (k := k) h
    show k.size ≤ a.size + r.size + 1
    omega
theorem size_le : ∀ {q : Ad} {T u : Dt}, sub T q = some u → u.size ≤ T.size
  | [], T, u, h => by
    rw [sub_nil] at h
    rw [Option.some.inj h]
    exact Nat.le_refl _
  | j :: q, T, u, h => by
    obtain ⟨k, hk, h2⟩ := sub_len h
    exact Nat.le_trans (size_le h2) (size_kid hk)
structure BS (T : Dt) (ps : List (Evt × Gone)) (L' : Lns) (B : Bgs) : Prop where
  run : Run T (fun _ => []) ps L'
  nd : (numsE ps).Nodup
  len : ps.length ≤ 70
  rel : Rel T B L'
  bl : ∀ q, (B q).length ≤ 70
  gd : T.good 1 = true
  ht : T.ht ≤ 15
  no : T.nodes ≤ 64
  sz : T.size ≤ 100000
structure BW (K : PySem.W.Frag) (C CS : Addr) (S S2 : List Addr) (H : Hp) (tp ca sp a g ha hta hla hsd : Addr) (hLs : List Addr) (T : Dt) (RB : List (Addr × Addr)) (B : Bgs) (ps : List (Evt × Gone)) (gs : List V) (L' : Lns) (hkv : List (Key × V)) : Prop where
  t : Tape K H tp ca
  tS : ∀ y ∈ tps tp ca, y ∈ S
  tB : ∀ y ∈ tps tp ca, y ∉ RB.map Prod.snd
  tS2 : ∀ y ∈ tps tp ca, y ∈ S2
  tL : ∀ y ∈ tps tp ca, y ∉ hsd :: hLs
  gT : g ∉ tps tp ca
  sp : SpE K S H sp T RB B
  ev : Dp K (offS S H) (.ref a) (.tuple (evDs ps))
  hg : H g = some (.lst gs)
  gs : DpAll K (offS S H) gs (gonesT T ps)
  st : StE K C CS S2 H ha hta hla hsd hLs T L' hkv
  ok : LnsOK T L' hkv
theorem BW.rn {K : PySem.W.Frag} {C CS : Addr} {S S2 : List Addr} {H H' : Hp} {tp ca sp a g ha hta hla hsd : Addr} {hLs : List Addr} {T : Dt} {RB : List (Addr × Addr)} {B : Bgs} {ps : List (Evt × Gone)} {gs : List V} {L' : Lns} {hkv : List (Key × V)}
    (b : BW K C CS S S2 H tp ca sp a g ha hta hla hsd hLs T RB B ps gs L' hkv) (R : Rn K tp ca H H') : BW K C CS S S2 H' tp ca sp a g ha hta hla hsd hLs T RB B ps gs L' hkv :=
  ⟨R.b, b.tS, b.tB, b.tS2, b.tL, b.gT, b.sp.keep R.g b.tS b.tB, dp_same (R.g.d b.tS) b.ev, R.at b.hg b.gT, dps_same (R.g.d b.tS) b.gs, b.st.keep R.g b.tS2 b.tL, b.ok⟩
def spBoughL (K : PySem.W.Frag) (C CS : Addr) : Sp := fun vs H Q _ => ∃ (S S2 : List Addr) (tp ca sp a g ha hta hla hsd : Addr) (hLs : List Addr) (T u : Dt) (q : Ad) (RB : List (Addr × Addr)) (B : Bgs) (ps : List (Evt × Gone)) (gs : List V) (L' : Lns) (hkv : List (Key × V)),
  vs = [.ref tp, .ref sp, .ref a, .ref g, .int (T.idx q : Nat), .ref ha] ∧ BW K C CS S S2 H tp ca sp a g ha hta hla hsd hLs T RB B ps gs L' hkv ∧ BS T ps L' B ∧ sub T q = some u ∧ ∀ H', Rn K tp ca H H' → Q (.bl true) H'
theorem cut_row {xs : List V} {i n : Nat} (h : i + n ≤ xs.length) : cutV xs (some (i : Int)) (some ((i + n : Nat) : Int)) = (xs.drop i).take n := by
  rw [cut_mid xs (by omega) (by omega)]
  congr 1
  omega
section
variable {P : Program} {w : World} {K : PySem.W.Frag} {mg : Str → Option Value} {base : Heap} {C CS : Addr}
theorem ok_lawbough (D : DefAt K mg "_law_bough" s_law_bough ["tape", "spots", "story", "gone", "spot", "held"]) (T0 : Txt K mg) (SC : StCl K CS) (GPick : CalX P w K mg base CX0 1 "_law_pick" ["tape", "many"] (spPick K)) (GSame : CalX P w K mg base CX0 20 "_law_same" ["told", "due"] (spSame K 20)) (GTold : CalX P w K mg base CX0 27 "_law_told" ["figure", "story", "spot", "named"] (spToldB K))
    (GDue : CalX P w K mg base CX0 1 "_law_due" ["spots", "story", "gone", "spot"] (spDue K)) (GLine : CalX P w K mg base CX0 1 "_law_line" ["row"] (spBagLine K)) (GPlayEvents : CalX P w K mg base CX0 26 "play_events" ["form", "events"] (spPlayQ K C CS)) (GBoughStanding : CalX P w K mg base CX0 27 "bough_standing" ["standing", "node"] (spBoughQ K C CS))
    (MAllLines : MQ P w K mg base CS 1 "all_lines" ["self"] (spAllL K C CS)) (MSameAs : MQ P w K mg base CS 5 "same_as" ["self", "other"] (spSameQ K C CS)) :
    CalX P w K mg base CX0 28 "_law_bough" ["tape", "spots", "story", "gone", "spot", "held"] (spBoughL K C CS) := by
  refine D.ok sc_law_bough (fun vs H Q E h => ?_) (fun f cdv A outer s H vs Q E hr h => ?_)
  · obtain ⟨S, S2, tp, ca, sp, a, g, ha, hta, hla, hsd, hLs, T, u, q, RB, B, ps, gs, L', hkv, rfl, _⟩ := h
    rfl
  obtain ⟨S, S2, tp, ca, sp, a, g, ha, hta, hla, hsd, hLs, T, u, q, RB, B, ps, gs, L', hkv, rfl, bw, bs, hu0, Qk⟩ := h
  have hu := hu_of hr
  refine ⟨_, (pss_cons (ps_set (i := 6) sc_law_bough.nd rfl (.inr rfl) (pe_ix ix_list (pv 1) (pv 4) (fun _ _ => rfl))) 
    (pss_cons (ps_set (i := 7) sc_law_bough.nd rfl (.inl rfl) (pe_c0 GDue hr (by decide) rfl (pa_cons (pv 1) (pa_cons (pv 2) (pa_cons (pv 3) (pa_cons (pv 4) pa_nil)))))) 
    (pss_cons (ps_if (pt_not (pt_val (pe_c0 GSame hr (by decide) rfl (pa_cons (pe_c0 GTold hr (by decide) rfl (pa_cons (pe_dget hu (pe_ix ix_list (pv 1) pe_int (fun _ _ => rfl)) pe_str (fun _ _ => rfl)) (pa_cons (pv 2) (pa_cons (pv 4) (pa_cons (pe_cmpR op_eq (pe_c0 GPick hr (by decide) rfl (pa_cons (pv 0) (pa_cons pe_int pa_nil))) pe_int (nomark _)) pa_nil))))) (pa_cons (pv 7) pa_nil))))) 
      (pss_one (ps_ret pe_bl)) pss_nil) 
    (pss_cons (ps_asg (pe_c0 GPlayEvents hr (by decide) rfl (pa_cons (pe_dget hu (pv 6) pe_str (fun _ _ => rfl)) (pa_cons (pv 7) pa_nil))) (pg_tup (by rfl) (pgs_cons (pg_name (i := 8) sc_law_bough.nd rfl (Or.inl rfl)) (pgs_cons (pg_name (i := 9) sc_law_bough.nd rfl (Or.inl rfl)) pgs_nil)))) 
    (pss_cons (ps_set (i := 11) sc_law_bough.nd rfl (.inl rfl) (pe_callTy call_tuple_of (by rfl) T0.tuple PyProof.Rows.boot_tuple (pa_cons (pe_lc (own := [("told", 10)]) (g := gName 10) (by rfl) sc_law_bough.nd (pi_list (pv 3)) (blkOk_by (own := [("told", 10)]) (N := N_law_bough) (sc := defScope s_law_bough) (by decide +kernel)) (fun _ _ _ _ _ => pg_name (i := 10) sc_law_bough.nd rfl (Or.inl rfl)) (fun _ _ _ _ _ => by exact (pts_one (PW.pt (pw_and (pt_cmpR op_le (pv 4) (pe_ix (show IxR _ (rIxT K) from ix_tup) (pv 10) pe_int (fun _ _ => rfl)) (nomark _)) (pw_and1 (pt_cmpR op_lt (pe_ix (show IxR _ (rIxT K) from ix_tup) (pv 10) pe_int (fun _ _ => rfl)) (pe_dget hu (pv 6) pe_str (fun _ _ => rfl)) (nomark _))))))) (fun _ _ _ _ _ => by exact (pe_ix (show IxR _ (rIxT K) from ix_tup) (pv 10) pe_int (fun _ _ => rfl)))) pa_nil))) 
    (pss_cons (ps_set (i := 13) sc_law_bough.nd rfl (.inl rfl) (pe_callTy call_tuple_of (by rfl) T0.tuple PyProof.Rows.boot_tuple (pa_cons (pe_lc (own := [("inner", 12)]) (g := gName 12) (tt := tYes) (by rfl) sc_law_bough.nd (pi_list (pe_slice sl_list (pv 1) (po_some (pv 4)) (po_some (pe_dget hu (pv 6) pe_str (fun _ _ => rfl))))) (blkOk_by (own := [("inner", 12)]) (N := N_law_bough) (sc := defScope s_law_bough) (by decide +kernel)) (fun _ _ _ _ _ => pg_name (i := 12) sc_law_bough.nd rfl (Or.inl rfl)) (fun _ _ _ _ _ => pts_nil) (fun _ _ _ _ _ => by exact (pe_c0 GLine hr (by decide) rfl (pa_cons (pv 12) pa_nil)))) pa_nil))) 
    (pss_cons (ps_if (PW.pt (pw_or (pt_not (pt_val (pe_c0 GSame hr (by decide) rfl (pa_cons (pv 8) (pa_cons (pv 11) pa_nil))))) (pw_or1 (pt_not (pt_val (pe_c0 GSame hr (by decide) rfl (pa_cons (pe_m0 (pv 9) SC.cl MAllLines hr (by decide)) (pa_cons (pv 13) pa_nil)))))))) 
      (pss_one (ps_ret pe_bl)) pss_nil) 
    (pss_cons (ps_if (pt_not (pt_val (pe_c0 GSame hr (by decide) rfl (pa_cons (pe_m1 (pv 9) SC.cl MSameAs hr (by decide) (pa_cons (pe_c0 GBoughStanding hr (by decide) rfl (pa_cons (pv 5) (pa_cons (pv 4) pa_nil))) pa_nil)) (pa_cons pe_bl pa_nil))))) 
      (pss_one (ps_ret pe_bl)) pss_nil) 
    (pss_cons (ps_set (i := 14) sc_law_bough.nd rfl (.inl rfl) (pv 4)) 
    (pss_cons (ps_for PassesOwn.never rfl (pi_range1 (by rfl) T0.range (pa_cons (pe_c0 GPick hr (by decide) rfl (pa_cons (pv 0) (pa_cons (pe_op op_add (pe_dget hu (pv 6) pe_str (fun _ _ => rfl)) pe_int) pa_nil))) pa_nil)) (pg_name (i := 15) sc_law_bough.nd rfl (Or.inl rfl)) 
      (pss_one (ps_set (i := 14) sc_law_bough.nd rfl (.inl rfl) (pe_dget hu (pe_ix ix_list (pv 1) (pv 14) (fun _ _ => rfl)) pe_str (fun _ _ => rfl))))) 
    (pss_cons (ps_set (i := 16) sc_law_bough.nd rfl (.inl rfl) (pe_c0 GDue hr (by decide) rfl (pa_cons (pv 1) (pa_cons (pv 2) (pa_cons (pv 3) (pa_cons (pv 14) pa_nil)))))) 
    (pss_one (ps_ret (pe_c0 GSame hr (by decide) rfl (pa_cons (pe_c0 GTold hr (by decide) rfl (pa_cons (pe_dget hu (pe_ix ix_list (pv 1) (pv 14) (fun _ _ => rfl)) pe_str (fun _ _ => rfl)) (pa_cons (pv 16) (pa_cons (pe_op op_sub (pv 4) (pv 14)) (pa_cons pe_bl pa_nil))))) (pa_cons (pv 7) pa_nil)))))))))))))))), ?_⟩
  have hsl := sizeLine_eq
  have uht := ht_le hu0
  have ugd := good_sub hu0 bs.gd
  have usz : u.size ≤ 100000 := Nat.le_trans (size_le hu0) bs.sz
  have uno := idx_lt hu0
  have unp := u.nodes_pos
  have bsht := bs.ht
  have bsno := bs.no
  have bslen := bs.len
  have psg := run_gong bs.run
  have pse := run_evg bs.run
  have runU : Run u (fun _ => []) (cutEs T u q ps) (at_ q L') := run_bough hu0 bs.run
  have cutg := run_evg runU
  have cutl := Nat.le_trans (cutEs_le T u q ps) bs.len
  have cutnd : (numsE (cutEs T u q ps)).Nodup := bs.nd.sublist (numsE_cut T u q ps)
  have evpl : plainT 20 (.tuple (evDs (cutEs T u q ps))) := evDs_plain cutg (by omega) (by omega)
  have gS : ∀ {H1 H2 : Hp}, Rn K tp ca H1 H2 → GoD S H1 H2 := fun r => r.g.d bw.tS
  have good : ∀ {t : Dt} {es : List (Evt × Gone)}, (∀ x ∈ es, EvG t x.1) → (numsE es).Nodup → evsOf t (.tuple (evDs es)) = true := fun h1 h2 => (evsOf_ev h1).trans (decide_eq_true h2)
  obtain ⟨r, b, kk, fv, xs, z1, z2, z3, z4, z5, z6, z7⟩ := bw.sp.at hu0
  refine ⟨_, rfl, _, rfl, sp, _, _, _, rfl, rfl, SqL.of bw.sp.rd.ln, atI_nat z2, ?_⟩
  refine ⟨_, rfl, _, rfl, _, rfl, _, rfl, sp, a, g, S, T, u, q, RB, ps, gs, rfl, bw.sp.ind, bw.sp.rd, bw.ev, bw.hg, bw.gs, psg, bs.len, hu0, by omega, fun H1 du s1 _ hdu => ?_⟩
  have R1 := Rn.of bw.t s1
  have bw1 := bw.rn R1
  obtain ⟨r0, b0, k0, fv0, xs0, y1, y2, y3, y4, y5, y6, y7⟩ := bw1.sp.at (sub_nil T)
  rw [idx_nil] at y2
  refine ⟨_, rfl, sp, _, 0, _, rfl, rfl, SqL.of bw1.sp.rd.ln, atI_0 y2, r0, _, rfl, (r9_fig T [] T fv0 k0 b0 ▸ DGet.k (k := Sum.inr ("figure" : Str)) (offS_some y3).2), _, rfl, _, rfl, _, rfl, tp, ca, 4, rfl, bw1.t, by decide, by decide, fun H2 x2 hx2 R2 => ⟨rfl, ?_⟩⟩
  have bw2 := bw1.rn R2
  have R02 := R1.trans R2
  refine ⟨fv0, .ref a, .int (T.idx q : Nat), decide (V.int (x2 : Nat) = V.int 1), T, _, some ((T.idx q : Nat) : Int), rfl, shv_dtv (same_shv (Same.trans (gS R2) offS_same) y4), bs.sz, dp_onS bw2.ev, evok_evDs pse bs.ht (by omega), rfl, (fun z => nomatch bs.gd.symm.trans z), fun _ => ⟨bs.ht, bs.no, (fun z => nomatch (good pse bs.nd).symm.trans z), (fun _ z => nomatch (below_idx hu0).symm.trans z), fun _ q' u' e hu' => ?_⟩⟩
  obtain ⟨rfl, rfl⟩ := idx_sub hu0 hu' e
  refine ⟨ps, L', rfl, by omega, bs.run, fun H3 rr s3 _ hrd => ?_⟩
  have R03 := R02.same s3
  have hdu3 := dp_same (gS (R2.same s3)) hdu
  refine ⟨_, rfl, .ref rr, .ref du, _, rfl, hrd, dp_onS hdu3, evpl, fun H4 s4 => ⟨_, rfl, iteF ?_⟩⟩
  have R04 := R03.same s4
  have bw4 := bw.rn R04
  have z34 := (offS_some ((gS R04) _ _ z3)).2
  have hdu4 := dp_same (GoD.of (S := S) s4) hdu3
  refine ⟨_, rfl, r, _, rfl, (r9_fig T q' u' fv kk b ▸ DGet.k (k := Sum.inr ("figure" : Str)) z34), _, rfl, [], fv, .ref du, u', cutEs T u' q' ps, at_ q' L', rfl, (fun y h => nomatch h), shv_dtv (same_shv (Same.trans (gS R04) offS_same) z4), usz, ugd, by omega, by omega, dp_onS hdu4, by omega, runU, cutnd, fun H5 rt tl dl al ta la sd Ls kv s5 _ hrt htl sj5 _ _ _ => ?_⟩
  refine ⟨rt, _, rfl, SqT.of hrt, rfl, _, _, rfl, _, _, rfl, rfl, ?_⟩
  have R05 := R04.same s5
  have bw5 := bw.rn R05
  have z35 := (offS_some ((gS R05) _ _ z3)).2
  have rd10 : ∀ {σ : L2.St} {x : V}, 10 < σ.length → ((wipe σ [10]).set 10 (some x))[10]? = some (some x) := fun h => rd1 h
  -- left
  have gl := gonesT_len T ps
  have gsl := dps_len bw5.gs
  refine ⟨_, rfl, g, rfl, ⟨_, SqL.of bw5.hg⟩, fun Dl hDl => ?_⟩
  refine lc_list (K := K) (a := g) (xs := gs) (fun i H' => Same H5 H' ∧ ∃ vs, H' Dl = some (.lst vs) ∧ vs.length ≤ i ∧ DpAll K (offS S H5) vs (((gonesT T ps).take i).flatMap (leftF (T.idx q') u'.nodes))) ⟨same_new hDl, [], upd_same, Nat.le_refl _, .nil⟩ (fun i H' _ ⟨s, _⟩ => SqL.of (s _ _ bw5.hg)) ?_ ?_
  · rintro i x H6 hx ⟨s6, vs, hD, hvl, hvs⟩
    have hil := (List.getElem?_eq_some_iff.mp hx).1
    obtain ⟨d, hd1, hd2⟩ := dps_at bw5.gs hx
    obtain ⟨d1, m, rfl⟩ := gonesT_mem (List.mem_of_getElem? hd1)
    have etk : (gonesT T ps).take (i + 1) = (gonesT T ps).take i ++ [.tuple [d1, .int m]] := by rw [List.take_add_one, hd1]; rfl
    cases hd2 with
    | @tup gt gx _ hgt hgx =>
    cases hgx with
    | @cons g1 _ _ _ f1 hgx =>
    cases hgx with
    | @cons g2 _ _ _ f2 hgx =>
    cases hgx
    cases f2
    have hgt6 := same_sqt (Same.trans offS_same s6) hgt
    have z36 := s6 _ _ z35
    refine ⟨wipe1, ?_⟩
    have keepv : ¬ (((T.idx q' : Nat) : Int) ≤ m ∧ m < ((T.idx q' + u'.nodes : Nat) : Int)) → ((gonesT T ps).take (i + 1)).flatMap (leftF (T.idx q') u'.nodes) = ((gonesT T ps).take i).flatMap (leftF (T.idx q') u'.nodes) := fun h => by
      rw [etk, List.flatMap_append]
      show _ ++ (leftF _ _ _ ++ []) = _
      rw [List.append_nil, show leftF (T.idx q') u'.nodes (.tuple [d1, .int m]) = [] from if_neg h, List.append_nil]
    refine ⟨_, rfl, _, rd10 (by simp only [List.length_set]; show 10 < 17; decide), gt, _, 1, _, rfl, rfl, hgt6, atI_1 rfl, _, _, rfl, rfl, _, rfl, ite2 (fun c1 => ?_) (fun c1 => ?_)⟩
    rotate_left
    · have c1' : ¬ ((T.idx q' : Nat) : Int) ≤ m := fun z => c1 (decide_eq_true z)
      refine iteF ⟨s6, vs, hD, by omega, ?_⟩
      rw [keepv fun z => c1' z.1]
      exact hvs
    have c1' : ((T.idx q' : Nat) : Int) ≤ m := of_decide_eq_true c1
    refine ⟨_, rd10 (by simp only [List.length_set]; show 10 < 17; decide), gt, _, 1, _, rfl, rfl, hgt6, atI_1 rfl, _, rfl, r, _, rfl, (r9_end T q' u' fv kk b ▸ DGet.k (k := Sum.inr ("end" : Str)) z36), _, _, rfl, rfl, _, rfl, ite2 (fun c2 => ?_) (fun c2 => ?_)⟩
    rotate_left
    · have c2' : ¬ m < ((T.idx q' + u'.nodes : Nat) : Int) := fun z => c2 (decide_eq_true z)
      refine ⟨s6, vs, hD, by omega, ?_⟩
      rw [keepv fun z => c2' z.2]
      exact hvs
    have c2' : m < ((T.idx q' + u'.nodes : Nat) : Int) := of_decide_eq_true c2
    refine ⟨_, rd10 (by simp only [List.length_set]; show 10 < 17; decide), gt, _, 0, _, rfl, rfl, hgt6, atI_0 rfl, vs, hD, small1000 (by omega), same_mut s6 hDl, vs ++ [g1], upd_same, by rw [List.length_append]; show _ + 1 ≤ _; omega, ?_⟩
    rw [etk, List.flatMap_append]
    refine dps_app hvs ?_
    show DpAll K _ [g1] (leftF _ _ _ ++ [])
    rw [List.append_nil, show leftF (T.idx q') u'.nodes (.tuple [d1, .int m]) = [d1] from if_pos ⟨c1', c2'⟩]
    exact .cons f1 .nil
  rintro H6 ⟨s6, vs, hD, _, hvs⟩
  rw [gsl, List.take_length, left_cut hu0 ps psg] at hvs
  refine ⟨Dl, vs, rfl, .inl ⟨SqL.of hD, fun lt hlt => ?_⟩⟩
  have s57 := s6.trans (same_new (o := .tup vs) hlt)
  have hlt7 : Dp K (upd H6 lt (.tup vs)) (.ref lt) (.tuple (gonesP (cutEs T u' q' ps))) := .tup (SqT.of upd_same) (dps_same (Same.trans (GoD.of (S := S) s57) offS_same) hvs)
  revert s57 hlt7
  generalize upd H6 lt (.tup vs) = H7
  intro s57 hlt7
  have R07 := R05.same s57
  have bw7 := bw.rn R07
  have z37 := (offS_some ((gS R07) _ _ z3)).2
  have rbl : (RB.map fun x => V.ref x.1).length = T.nodes := by rw [List.length_map, bw.sp.rw.len]
  -- lines
  refine ⟨_, rfl, _, rfl, _, rfl, _, rfl, r, _, rfl, (r9_end T q' u' fv kk b ▸ DGet.k (k := Sum.inr ("end" : Str)) z37), _, rfl, sp, _, rfl, SqL.of bw7.sp.rd.ln, fun p8 hp8 => ?_⟩
  have s78 := same_new (o := .lst (cutV (RB.map fun x => V.ref x.1) (some ((T.idx q' : Nat) : Int)) (some ((T.idx q' + u'.nodes : Nat) : Int)))) hp8
  have hp88 : (upd H7 p8 (.lst (cutV (RB.map fun x => V.ref x.1) (some ((T.idx q' : Nat) : Int)) (some ((T.idx q' + u'.nodes : Nat) : Int))))) p8 = some (.lst (cutV (RB.map fun x => V.ref x.1) (some ((T.idx q' : Nat) : Int)) (some ((T.idx q' + u'.nodes : Nat) : Int)))) := upd_same
  rw [cut_row (by rw [rbl]; exact uno)] at hp88 s78 ⊢
  revert s78 hp88
  generalize upd H7 p8 (.lst (((RB.map fun x => V.ref x.1).drop (T.idx q')).take u'.nodes)) = H8
  intro s78 hp88
  have R08 := R07.same s78
  have bw8 := bw.rn R08
  have rll : (((RB.map fun x => V.ref x.1).drop (T.idx q')).take u'.nodes).length = u'.nodes := by rw [List.length_take, List.length_drop, rbl]; omega
  refine ⟨p8, rfl, ⟨_, SqL.of hp88⟩, fun D2 hD2 => ?_⟩
  have onE : ∀ {H'}, GoS [D2] H8 H' → Same H8 H' := fun gg y o e => gg.at e fun z => by
    rw [List.mem_singleton.mp z, hD2] at e
    exact nomatch e
  have offE : ∀ {H'}, GoS [D2] H8 H' → Same (offS S H8) (offS (D2 :: S) H') := fun {H'} gg y o e => by
    obtain ⟨e1, e2⟩ := offS_some e
    rw [offS_ne (fun z => by
      rcases List.mem_cons.mp z with z | z
      · rw [z, hD2] at e2
        exact nomatch e2
      · exact e1 z)]
    exact onE gg _ _ e2
  have dIn : ∀ {H'} {fs : List V}, GoS [D2] H8 H' → H' D2 = some (.lst fs) → InD (D2 :: S) H' := fun {H' fs} gg hd y hy => by
    rcases List.mem_cons.mp hy with rfl | hy
    · rw [hd]; exact fun z => nomatch z
    · exact same_al (onE gg) (bw8.sp.ind y hy)
  refine lc_list (K := K) (a := p8) (xs := ((RB.map fun x => V.ref x.1).drop (T.idx q')).take u'.nodes) (fun i H' => GoS [D2] H8 H' ∧ ∃ vs, H' D2 = some (.lst vs) ∧ DpAll K (offS (D2 :: S) H') vs (((ad u').take i).map fun p => .tuple ((lineB (B (q' ++ p))).map enD))) ⟨GoS.of (same_new hD2), [], upd_same, .nil⟩ (fun i H' _ ⟨gg, _⟩ => SqL.of (onE gg _ _ hp88)) ?_ ?_
  · rintro i x H9 hx ⟨g9, vs9, hD9, hvs9⟩
    have hil := (List.getElem?_eq_some_iff.mp hx).1
    rw [rll] at hil
    have hal := ad_len u'
    have hpi : (ad u')[i]? = some ((ad u')[i]'(by omega)) := List.getElem?_eq_getElem (by omega)
    generalize (ad u')[i]'(by omega) = p at hpi
    obtain ⟨v, hv⟩ := ad_sub (List.mem_of_getElem? hpi)
    have happ := sub_app T q' u' hu0 p
    have hsv : sub T (q' ++ p) = some v := by rw [happ.1]; exact hv
    have hix : T.idx (q' ++ p) = T.idx q' + i := by rw [happ.2, idx_of hpi]
    have etk : (ad u').take (i + 1) = (ad u').take i ++ [p] := by rw [List.take_add_one, hpi]; rfl
    obtain ⟨r9', b9, k9, fv9, xs9, w1, w2, w3, w4, w5, w6, w7⟩ := bw8.sp.at hsv
    rw [hix] at w2
    have hxr : x = .ref r9' := by
      rw [List.getElem?_take_of_lt hil, List.getElem?_drop, w2] at hx
      exact (Option.some.inj hx).symm
    subst hxr
    have hvl := dps_len hvs9
    rw [List.length_map, List.length_take] at hvl
    have bl := bs.bl (q' ++ p)
    refine ⟨wipe1, _, rd1 (by simp only [List.length_set]; show 12 < 17; decide), r9', b9, _, xs9, B (q' ++ p), D2 :: S, rfl, onE g9 _ _ (offS_some w3).2, r9_bag .., onE g9 _ _ w6, dIn g9 hD9, dps_same (offE g9) w7, by omega, fun H10 v10 s10 hv10 => ?_⟩
    refine ⟨vs9, s10 _ _ hD9, small1000 (by omega), (g9.trans (GoS.of s10)).upd (List.mem_singleton.mpr rfl), vs9 ++ [v10], upd_same, ?_⟩
    have gD : GoD (D2 :: S) H10 (upd H10 D2 (.lst (vs9 ++ [v10]))) := GoD.refl.upd (List.mem_cons_self ..)
    rw [etk, List.map_append]
    exact dps_app (dps_same ((GoD.of s10).trans gD) hvs9) (.cons (dp_same gD hv10) .nil)
  rintro H9 ⟨g9, vs9, hD9, hvs9⟩
  rw [rll, ← ad_len, List.take_length] at hvs9
  have hLd : linesD u' (at_ q' L') = .tuple ((ad u').map fun p => .tuple ((lineB (B (q' ++ p))).map enD)) := by
    unfold linesD
    congr 1
    refine List.map_congr_left fun p hp => ?_
    obtain ⟨v, hv⟩ := ad_sub hp
    have hm : q' ++ p ∈ ad T := sub_ad (u := v) (by rw [(sub_app T q' u' hu0 p).1]; exact hv)
    show PyData.tuple ((L' (q' ++ p)).map enD) = _
    rw [bs.rel _ hm]
  refine ⟨D2, vs9, rfl, .inl ⟨SqL.of hD9, fun lr hlr => ?_⟩⟩
  have s810 := (onE g9).trans (same_new (o := .tup vs9) hlr)
  have hlr10 : Dp K (upd H9 lr (.tup vs9)) (.ref lr) (linesD u' (at_ q' L')) := by
    rw [hLd]
    exact dp_onS (dpn (K := K) (dIn g9 hD9) hlr hvs9)
  revert s810 hlr10
  generalize upd H9 lr (.tup vs9) = H10
  intro s810 hlr10
  have s510 : Same H5 H10 := s57.trans (s78.trans s810)
  have R010 := R08.same s810
  have bw10 := bw.rn R010
  have hlt10 := dp_same (s78.trans s810) hlt7
  have sj10 := sj5.same s510
  obtain ⟨dxa, hoba⟩ := sj10.st.obj
  have htl10 := s510 _ _ htl
  have sG : Str → Prop := fun _ => True
  -- the first test
  refine ⟨.ref tl, by simp [List.getElem?_set, L2.start], .ref lt, by simp [List.getElem?_set, L2.start], .ref tl, .ref lt, _, rfl, .tup (SqT.of htl10) (gones_dp _), hlt10, ⟨by have := gonesV_len (cutEs T u' q' ps); rw [← dps_len (gones_dp (K := K) (H := H10) (cutEs T u' q' ps))]; omega, gonesP_pl (n := 18) _⟩, fun H11 s11 => ⟨_, rfl, ?_⟩⟩
  refine iteF ?_
  have sj11 := sj10.same s11
  have hob11 := s11 _ _ hoba
  have hlr11 := dp_same s11 hlr10
  refine ⟨.ref al, by simp [List.getElem?_set, L2.start], al, dxa, _, rfl, hob11, rfl, al, ta, la, sd, _, Ls, u', at_ q' L', kv, rfl, sj11.st, fun H12 pl s12 _ hpl => ?_⟩
  refine ⟨.ref lr, by simp [List.getElem?_set, L2.start], .ref pl, .ref lr, _, rfl, dp_onS hpl, dp_same s12 hlr11, lines_plain (by omega) (fun z => bw.ok.rk _) (fun z => by have := bw.ok.sz (q' ++ z); show (L' (q' ++ z)).length ≤ 1000; omega), fun H13 s13 => ⟨_, rfl, iteF ?_⟩⟩
  have s1113 := s12.trans s13
  have sj13 := sj11.same s1113
  have hob13 := s1113 _ _ hob11
  have R013 := R010.same (s11.trans s1113)
  have bw13 := bw.rn R013
  -- the standing of the bough
  refine ⟨.ref al, by simp [List.getElem?_set, L2.start], al, dxa, _, rfl, hob13, rfl, .ref ha, by simp [List.getElem?_set, L2.start], .int (T.idx q' : Nat), by simp [List.getElem?_set, L2.start], ha, hta, hla, hsd, S2, hLs, T, u', q', L', hkv, rfl, bw13.st, bw13.ok, hu0, usz, fun H14 a14 ta14 la14 sd14 Ls14 kv14 s14 st14 => ?_⟩
  refine ⟨al, ta, la, sd, _, Ls, u', at_ q' L', kv, a14, ta14, la14, sd14, _, Ls14, u', at_ q' L', kv14, rfl, (sj13.same s14).st, by omega, st14, by omega, ?_⟩
  rw [eqv_self, decide_eq_true rfl]
  refine ⟨.bl true, .bl true, .bool true, rfl, .bl true, .bl true, rfl, fun H15 s15 => ⟨_, rfl, iteF ?_⟩⟩
  have R015 := R013.same (s14.trans s15)
  have bw15 := bw.rn R015
  -- up to the top
  have z315 := (offS_some ((gS R015) _ _ z3)).2
  refine ⟨.int (T.idx q' : Nat), by simp [List.getElem?_set, L2.start], ?_⟩
  refine ⟨.ref tp, by simp [List.getElem?_set, L2.start], .ref r, by simp [List.getElem?_set, L2.start], r, _, rfl, (r9_depth T q' u' fv kk b ▸ DGet.k (k := Sum.inr ("depth" : Str)) z315), _, _, rfl, rfl, tp, ca, q'.length + 1, rfl, bw15.t, by omega, by have := len_idx T q' u' hu0; omega, fun H16 m hm R16 => ?_⟩
  have R016 := R015.trans R16
  have bw16 := bw.rn R016
  refine ⟨((m : Nat) : Int), rfl, by omega, by have := len_idx T q' u' hu0; omega, for_range (lo := 0) (n := m) (fun k σ H' => ∃ o15 : Option V, σ = [some (.ref tp), some (.ref sp), some (.ref a), some (.ref g), some (.int (T.idx q' : Nat)), some (.ref ha), some (.ref r), some (.ref du), some (.ref tl), some (.ref al), none, some (.ref lt), none, some (.ref lr), some (.int (T.idx (q'.take (q'.length - k)) : Nat)), o15, none] ∧ Same H16 H') ⟨none, by rw [Nat.sub_zero, List.take_length]; simp [L2.start], Same.refl _⟩ ?_ ?_⟩
  · rintro k σ H17 hk ⟨o15, rfl, s17⟩
    have hpad := sub_ad hu0
    obtain ⟨w, hw⟩ := ad_sub (pre_ad hpad (List.take_prefix (q'.length - k) q'))
    have R017 := R016.same s17
    have bw17 := bw.rn R017
    obtain ⟨r', b', kk', fv', xs', w1, w2, w3, w4, w5, w6, w7⟩ := bw17.sp.at hw
    refine ⟨_, rfl, _, rfl, sp, _, _, _, rfl, rfl, SqL.of bw17.sp.rd.ln, atI_nat w2, r', _, rfl, (r9_above T _ w fv' kk' b' ▸ DGet.k (k := Sum.inr ("above" : Str)) (offS_some w3).2), ?_⟩
    refine ⟨some (.int (0 + (k : Int))), ?_, s17⟩
    have e1 : q'.length - k = (q'.length - (k + 1)) + 1 := by omega
    rw [e1, upI_take (by omega)]
    rfl
  rintro σ H17 ⟨o15, rfl, s17⟩
  have hpad := sub_ad hu0
  obtain ⟨p, hp⟩ : ∃ p, p = q'.take (q'.length - m) := ⟨_, rfl⟩
  obtain ⟨rr0, hrr0⟩ : ∃ rr0, q' = p ++ rr0 := ⟨_, by rw [hp]; exact (List.take_append_drop _ _).symm⟩
  rw [← hp]
  obtain ⟨w, hw⟩ := ad_sub (pre_ad (p := p) hpad ⟨rr0, hrr0.symm⟩)
  have R017 := R016.same s17
  have bw17 := bw.rn R017
  obtain ⟨r', b', kk', fv', xs', w1, w2, w3, w4, w5, w6, w7⟩ := bw17.sp.at hw
  have wht := ht_le hw
  have wno := idx_lt hw
  refine ⟨_, rfl, _, rfl, _, rfl, _, rfl, sp, a, g, S, T, w, p, RB, ps, gs, rfl, bw17.sp.ind, bw17.sp.rd, bw17.ev, bw17.hg, bw17.gs, psg, bs.len, hw, by omega, fun H18 ov s18 _ hov => ?_⟩
  have R018 := R017.same s18
  have bw18 := bw.rn R018
  have w38 := s18 _ _ (offS_some w3).2
  have happ := sub_app T p w hw rr0
  have hsub : sub w rr0 = some u' := by rw [← happ.1, ← hrr0]; exact hu0
  have hidx : T.idx q' = T.idx p + w.idx rr0 := by rw [hrr0]; exact happ.2
  have runW : Run w (fun _ => []) (cutEs T w p ps) (at_ p L') := run_bough hw bs.run
  have wg := run_evg runW
  have wl := Nat.le_trans (cutEs_le T w p ps) bs.len
  have wnd : (numsE (cutEs T w p ps)).Nodup := bs.nd.sublist (numsE_cut T w p ps)
  refine ⟨_, rfl, _, rfl, sp, _, _, _, rfl, rfl, SqL.of bw18.sp.rd.ln, atI_nat w2, r', _, rfl, (r9_fig T _ w fv' kk' b' ▸ DGet.k (k := Sum.inr ("figure" : Str)) w38), _, rfl, _, rfl, _, rfl, _, _, rfl, rfl, ?_⟩
  refine ⟨fv', .ref ov, .int ((T.idx q' : Nat) - (T.idx p : Nat)), false, w, _, some ((T.idx q' : Nat) - (T.idx p : Nat) : Int), rfl, shv_dtv (same_shv (Same.trans (GoD.of (S := S) s18) offS_same) w4), Nat.le_trans (size_le hw) bs.sz, dp_onS hov, evok_evDs wg (by omega) (by omega), rfl, (fun z => nomatch (good_sub hw bs.gd).symm.trans z), fun _ => ⟨by omega, by omega, (fun z => nomatch (good wg wnd).symm.trans z), (fun _ z => ?_), fun _ q2 u2 e hu2 => ?_⟩⟩
  · have h1 := below_idx hsub
    have e1 : ((T.idx q' : Nat) - (T.idx p : Nat) : Int) = ((w.idx rr0 : Nat) : Int) := by rw [hidx]; omega
    rw [e1, h1] at z
    exact nomatch z
  · have e1 : (some ((w.idx rr0 : Nat) : Int)) = some ((w.idx q2 : Nat) : Int) := by
      have e2 : (some ((T.idx q' : Nat) - (T.idx p : Nat) : Int)) = some ((w.idx q2 : Nat) : Int) := e
      rw [← e2]
      congr 1
      rw [hidx]
      omega
    obtain ⟨rfl, rfl⟩ := idx_sub hsub hu2 e1
    refine ⟨cutEs T w p ps, at_ p L', rfl, by omega, runW, fun H19 rr s19 _ hrd => ?_⟩
    rw [cutEs_cut hw hsub, ← hrr0] at hrd
    have R019 := R018.same s19
    have hdu19 : Dp K (offS S H19) (.ref du) (.tuple (evDs (cutEs T u2 q' ps))) := dp_same ((gS R2).trans (gS ((((((((Rn.of R02.b s3).same s4).same s5).same s57).same s78).same s810).same (s11.trans (s1113.trans (s14.trans s15)))).trans (R16.same (s17.trans (s18.trans s19)))))) hdu
    exact ⟨_, rfl, .ref rr, .ref du, _, rfl, hrd, dp_onS hdu19, evpl, fun H20 s20 => Qk H20 (R019.same s20)⟩
end
end K65
set_option Elab.async false
set_option linter.all false
set_option maxRecDepth 100000
set_option maxHeartbeats 8000000
namespace K65
open PySem PySem.Spec PyProof.Rows L2 Dt
/-! ### law -/
def tRoom (K : PySem.W.Frag) : TE := fun σ H Q => ∃ (tp ca : Addr), σ[1]? = some (some (.ref tp)) ∧ Tape K H tp ca ∧ ∀ H' (r : Nat), Rn K tp ca H H' → 1 ≤ r → r ≤ 24 → Q (.int (r : Nat)) H'
def tDeep (K : PySem.W.Frag) : TE := fun σ H Q => ∃ (tp ca : Addr), σ[1]? = some (some (.ref tp)) ∧ Tape K H tp ca ∧ ∀ H' (d : Nat), Rn K tp ca H H' → d ≤ 12 → Q (.int (d : Nat)) H'
theorem size_nodes2 : ∀ t : Dt, t.size + 1 ≤ 2 * t.nodes
  | .x => Nat.le_refl 2
  | .o => Nat.le_refl 2
  | .c k r => by
    have h1 := size_nodes2 k
    have h2 := size_nodes2 r
    show k.size + r.size + 1 + 1 ≤ 2 * (k.nodes + r.nodes)
    omega
def firstD : PyData → List PyData
  | .tuple (y0 :: _) => [y0]
  | _ => []
theorem gones_first (T : Dt) : ∀ ps : List (Evt × Gone), (gonesT T ps).flatMap firstD = gonesP ps
  | [] => rfl
  | (.dep, none) :: ps => congrArg (PyData.none :: ·) (gones_first T ps)
  | (.dep, some (n, _, _)) :: ps => congrArg (PyData.int n :: ·) (gones_first T ps)
  | (.psh .., _) :: ps => gones_first T ps
def spLaw (K : PySem.W.Frag) : Sp := fun vs H Q _ => ∃ (a : Addr) (ns : List Int), vs = [.ref a] ∧ SqL K H a (ns.map V.int) ∧ ns.length ≤ 63 ∧ ∀ H', Q (.bl true) H'
section
variable {P : Program} {w : World} {K : PySem.W.Frag} {mg : Str → Option Value} {base : Heap} {C CS fL : Addr} {fdL : FuncData}
theorem ok_law (F : Fun K "law" "law" s_law fL fdL) (T0 : Txt K mg) (mmax : mg "max" = none) (GTape : CalX P w K mg base CX0 1 "_law_tape" ["script"] (spTape K)) (GPick : CalX P w K mg base CX0 1 "_law_pick" ["tape", "many"] (spPick K)) (GSame : CalX P w K mg base CX0 20 "_law_same" ["told", "due"] (spSame K 20)) (GShape : CalX P w K mg base CX0 14 "_law_shape" ["tape", "room", "deep", "spare"] (spShape K 13)) (GSpots : CalX P w K mg base CX0 20 "_law_spots" ["figure", "above", "slot", "depth", "spots"] (spSpots K 20))
    (GStory : CalX P w K mg base CX0 3 "_law_story" ["tape", "spots"] (spStory K)) (GCut : CalX P w K mg base CX0 1 "_law_cut" ["story"] (spCut K)) (GPlay : CalX P w K mg base CX0 1 "_law_play" ["spots", "story"] (spPlayB K)) (GPlayEvents : CalX P w K mg base CX0 26 "play_events" ["form", "events"] (spPlayQ K C CS))
    (GBough : CalX P w K mg base CX0 28 "_law_bough" ["tape", "spots", "story", "gone", "spot", "held"] (spBoughL K C CS)) (GRefused : CalX P w K mg base CX0 28 "_law_refused" ["tape", "figure", "story", "spots"] (spRefused K)) : FnOk P w K mg base CX0 29 fL fdL ["script"] (spLaw K) := by
  refine F.ok sc_law (fun vs H Q E h => ?_) (fun cdv A outer s H vs Q E hr h => ?_)
  · obtain ⟨a, ns, rfl, _⟩ := h
    rfl
  obtain ⟨a, ns, rfl, ha, hns, q⟩ := h
  refine ⟨_, (pss_cons (ps_set (i := 1) sc_law.nd rfl (.inl rfl) (pe_c0 GTape hr (by decide) rfl (pa_cons (pv 0) pa_nil))) 
    (pss_cons (ps_set (i := 2) sc_law.nd rfl (.inl rfl) (pe_conv (t' := tRoom K) (pe_ix ix_list (pe_lst (pa_cons (pe_op op_add pe_int (pe_c0 GPick hr (by decide) rfl (pa_cons (pv 1) (pa_cons pe_int pa_nil)))) (pa_cons (pe_op op_add pe_int (pe_c0 GPick hr (by decide) rfl (pa_cons (pv 1) (pa_cons pe_int pa_nil)))) (pa_cons pe_int (pa_cons pe_int pa_nil))))) (pe_callB (call_min2 rfl) (by rfl) T0.min (by decide +kernel) (pa_cons pe_int (pa_cons (pe_op op_fdiv (pe_c0 GPick hr (by decide) rfl (pa_cons (pv 1) (pa_cons pe_int pa_nil))) pe_int) pa_nil))) (fun _ _ => rfl)) (by
      rintro σ H Q ⟨tp, ca, h1, hT, q⟩
      refine ⟨_, h1, tp, ca, 8, rfl, hT, by decide, by decide, fun H1 x hx R1 => ⟨_, _, rfl, rfl, _, h1, tp, ca, 9, rfl, R1.b, by decide, by decide, fun H2 y hy R2 => ⟨_, _, rfl, rfl, (by show 4 ≤ sizeLine; decide), fun l hl => ?_⟩⟩⟩
      obtain ⟨H3, e3⟩ : ∃ H3, H3 = upd H2 l (.lst [.int (2 + ((x : Nat) : Int)), .int (1 + ((y : Nat) : Int)), .int 3, .int 24]) := ⟨_, rfl⟩
      have s3 : Same H2 H3 := by rw [e3]; exact same_new hl
      have hl3 : H3 l = some (.lst [.int (2 + ((x : Nat) : Int)), .int (1 + ((y : Nat) : Int)), .int 3, .int 24]) := by rw [e3, upd_same]
      rw [← e3]
      clear e3
      have R3 := (R1.trans R2).same s3
      have nl := tps_no R2.b hl
      refine ⟨_, h1, tp, ca, 10, rfl, R3.b, by decide, by decide, fun H4 c hc R4 => ?_⟩
      refine ⟨_, _, rfl, rfl, ⟨by decide, by decide⟩, _, _, rfl, ?_⟩
      obtain ⟨j, hj, hj4⟩ : ∃ j : Nat, (if ((c : Nat) : Int) / 3 < 3 then ((c : Nat) : Int) / 3 else 3) = ((j : Nat) : Int) ∧ j < 4 := ⟨min 3 (c / 3), by split <;> omega, by omega⟩
      obtain ⟨z, hz, hz1, hz2⟩ : ∃ z : Nat, [V.int (2 + ((x : Nat) : Int)), .int (1 + ((y : Nat) : Int)), .int 3, .int 24][j]? = some (.int (z : Nat)) ∧ 1 ≤ z ∧ z ≤ 24 := by
        rcases (by omega : j = 0 ∨ j = 1 ∨ j = 2 ∨ j = 3) with rfl | rfl | rfl | rfl
        · exact ⟨2 + x, rfl, by omega, by omega⟩
        · exact ⟨1 + y, rfl, by omega, by omega⟩
        · exact ⟨3, rfl, by decide, by decide⟩
        · exact ⟨24, rfl, by decide, by decide⟩
      exact ⟨l, _, _, _, rfl, congrArg V.int hj, SqL.of (R4.at hl3 nl), atI_nat hz, q H4 z (R3.trans R4) hz1 hz2⟩))) 
    (pss_cons (ps_set (i := 3) sc_law.nd rfl (.inl rfl) (pe_c0 GShape hr (by decide) rfl (pa_cons (pv 1) (pa_cons (pv 2) (pa_cons (pe_conv (t' := tDeep K) (pe_ix ix_list (pe_lst (pa_cons pe_int (pa_cons pe_int (pa_cons pe_int pa_nil)))) (pe_c0 GPick hr (by decide) rfl (pa_cons (pv 1) (pa_cons pe_int pa_nil))) (fun _ _ => rfl)) (by
      rintro σ H Q ⟨tp, ca, h1, hT, q⟩
      refine ⟨(by show 3 ≤ sizeLine; decide), fun l hl => ?_⟩
      obtain ⟨H3, e3⟩ : ∃ H3, H3 = upd H l (.lst [.int 6, .int 6, .int 12]) := ⟨_, rfl⟩
      have s3 : Same H H3 := by rw [e3]; exact same_new hl
      have hl3 : H3 l = some (.lst [.int 6, .int 6, .int 12]) := by rw [e3, upd_same]
      rw [← e3]
      clear e3
      have R3 := Rn.of hT s3
      have nl := tps_no hT hl
      refine ⟨_, h1, tp, ca, 3, rfl, R3.b, by decide, by decide, fun H4 j hj R4 => ?_⟩
      obtain ⟨z, hz, hz2⟩ : ∃ z : Nat, [V.int 6, .int 6, .int 12][j]? = some (.int (z : Nat)) ∧ z ≤ 12 := by
        rcases (by omega : j = 0 ∨ j = 1 ∨ j = 2) with rfl | rfl | rfl
        · exact ⟨6, rfl, by decide⟩
        · exact ⟨6, rfl, by decide⟩
        · exact ⟨12, rfl, by decide⟩
      exact ⟨l, _, _, _, rfl, rfl, SqL.of (R4.at hl3 nl), atI_nat hz, q H4 z (R3.trans R4) hz2⟩)) (pa_cons (pe_op op_rep (pe_lst (pa_cons pe_int pa_nil)) pe_int) pa_nil)))))) 
    (pss_cons (ps_set (i := 4) sc_law.nd rfl (.inl rfl) (pe_c0 GSpots hr (by decide) rfl (pa_cons (pv 3) (pa_cons (pe_un un_neg pe_int) (pa_cons pe_int (pa_cons pe_int (pa_cons (pe_lst pa_nil) pa_nil))))))) 
    (pss_cons (ps_set (i := 5) sc_law.nd rfl (.inl rfl) (pe_c0 GCut hr (by decide) rfl (pa_cons (pe_c0 GStory hr (by decide) rfl (pa_cons (pv 1) (pa_cons (pv 4) pa_nil))) pa_nil))) 
    (pss_cons (ps_set (i := 6) sc_law.nd rfl (.inl rfl) (pe_c0 GPlay hr (by decide) rfl (pa_cons (pv 4) (pa_cons (pv 5) pa_nil)))) 
    (pss_cons (ps_asg (pe_c0 GPlayEvents hr (by decide) rfl (pa_cons (pv 3) (pa_cons (pv 5) pa_nil))) (pg_tup (by rfl) (pgs_cons (pg_name (i := 7) sc_law.nd rfl (Or.inl rfl)) (pgs_cons (pg_name (i := 8) sc_law.nd rfl (Or.inl rfl)) pgs_nil)))) 
    (pss_cons (ps_if (pt_not (pt_val (pe_c0 GSame hr (by decide) rfl (pa_cons (pv 7) (pa_cons (pe_callTy call_tuple_of (by rfl) T0.tuple PyProof.Rows.boot_tuple (pa_cons (pe_lc (own := [("told", 9)]) (g := gName 9) (tt := tYes) (by rfl) sc_law.nd (pi_list (pv 6)) (blkOk_by (own := [("told", 9)]) (N := N_law) (sc := defScope s_law) (by decide +kernel)) (fun _ _ _ _ _ => pg_name (i := 9) sc_law.nd rfl (Or.inl rfl)) (fun _ _ _ _ _ => pts_nil) (fun _ _ _ _ _ => by exact (pe_ix (show IxR _ (rIxT K) from ix_tup) (pv 9) pe_int (fun _ _ => rfl)))) pa_nil)) pa_nil))))) 
      (pss_one (ps_ret pe_bl)) pss_nil) 
    (pss_cons (ps_set (i := 10) sc_law.nd rfl (.inl rfl) (pe_c0 GPick hr (by decide) rfl (pa_cons (pv 1) (pa_cons (pe_callB (call_max2 rfl) (by rfl) mmax (by decide +kernel) (pa_cons pe_int (pa_cons (pe_op op_sub (pe_callB call_len_seq (by rfl) T0.len PySem.boot_len (pa_cons (pv 4) pa_nil)) pe_int) pa_nil))) pa_nil)))) 
    (pss_cons (ps_for PassesOwn.never rfl (pi_list (pe_op op_cat (pe_lst (pa_cons pe_int pa_nil)) (pe_listRg (by rfl) (by rfl) T0.list (prg_2 (by rfl) T0.range (pv 10) (pe_callB (call_min2 rfl) (by rfl) T0.min (by decide +kernel) (pa_cons (pe_callB call_len_seq (by rfl) T0.len PySem.boot_len (pa_cons (pv 4) pa_nil)) (pa_cons (pe_op op_add (pv 10) pe_int) pa_nil))))))) (pg_name (i := 11) sc_law.nd rfl (Or.inl rfl)) 
      (pss_one (ps_if (pt_not (pt_val (pe_c0 GBough hr (by decide) rfl (pa_cons (pv 1) (pa_cons (pv 4) (pa_cons (pv 5) (pa_cons (pv 6) (pa_cons (pv 11) (pa_cons (pv 8) pa_nil))))))))) 
        (pss_one (ps_ret pe_bl)) pss_nil))) 
    (pss_one (ps_ret (pe_c0 GRefused hr (by decide) rfl (pa_cons (pv 1) (pa_cons (pv 3) (pa_cons (pv 5) (pa_cons (pv 4) pa_nil))))))))))))))))), ?_⟩
  have hsl := sizeLine_eq
  refine ⟨_, rfl, a, ns, rfl, ha, hns, fun H1 tp ca s1 t1 _ _ => ?_⟩
  refine ⟨tp, ca, rfl, t1, fun H2 rm R2 hr1 hr2 => ?_⟩
  refine ⟨_, rfl, _, rfl, tp, ca, rfl, R2.b, fun H3 dp R3 hdp => ?_⟩
  refine ⟨(by show 1 ≤ sizeLine; decide), fun l0 hl0 => ?_⟩
  have s3 := same_new (o := .lst [.int 0]) hl0
  have hl3 : (upd H3 l0 (.lst [.int 0])) l0 = some (.lst [.int 0]) := upd_same
  revert s3 hl3
  generalize upd H3 l0 (.lst [.int 0]) = H4
  intro s3 hl3
  refine ⟨l0, 16, _, rfl, rfl, hl3, by decide, by decide, (by show 1 * 16 ≤ sizeLine; decide), fun sl hsl0 => ?_⟩
  have s5 := same_new (o := .lst (List.replicate (16 : Int).toNat ([.int 0] : List V)).flatten) hsl0
  have hsl5 : (upd H4 sl (.lst (List.replicate (16 : Int).toNat ([.int 0] : List V)).flatten)) sl = some (.lst (zerosV 16)) := upd_same
  have t4 := R3.b.same s3
  have n1 := t4.new hsl0
  have n2 := t4.newC hsl0
  revert s5 hsl5
  generalize upd H4 sl (.lst (List.replicate (16 : Int).toNat ([.int 0] : List V)).flatten) = H5
  intro s5 hsl5
  have t5 := t4.same s5
  have in5 : InD [sl, tp, ca] H5 := fun y hy => by
    simp only [List.mem_cons, List.not_mem_nil, or_false] at hy
    rcases hy with rfl | rfl | rfl
    · rw [hsl5]; exact fun z => nomatch z
    · obtain ⟨u, e⟩ := t5.some; rw [e]; exact fun z => nomatch z
    · obtain ⟨u, e⟩ := t5.someC; rw [e]; exact fun z => nomatch z
  refine ⟨tp, ca, sl, rm, dp, 16, [sl, tp, ca], rfl, by omega, hr1, hr2, by decide, ⟨t5, hsl5, n1, n2⟩, in5, by simp, by simp, by simp, fun H6 fv T sz6 sht6 hs6 g6 hfv hgd hht hno => ?_⟩
  have t6 := sht6.t
  have no63 : T.nodes ≤ 63 := by omega
  have hT15 : T.ht ≤ 15 := by omega
  have hsz : T.size ≤ 100000 := by have := size_nodes2 T; omega
  have in6 : InD [sl, tp, ca] H6 := fun y hy => g6.k y (in5 y hy)
  -- the rows
  refine ⟨_, rfl, _, rfl, (by show 0 ≤ sizeLine; decide), fun sp hsp => ?_⟩
  have s7 := same_new (o := .lst []) hsp
  have hsp7 : (upd H6 sp (.lst [])) sp = some (.lst []) := upd_same
  revert s7 hsp7
  generalize upd H6 sp (.lst []) = H7
  intro s7 hsp7
  have t7 := t6.same s7
  have hfv7 : ShV K (offS (sp :: [sl, tp, ca]) H7) fv T := same_shv (fun y o e => by
    obtain ⟨e1, e2⟩ := offS_some e
    rw [offS_ne (fun z => by
      rcases List.mem_cons.mp z with z | z
      · rw [z, hsp] at e2
        exact nomatch e2
      · exact e1 z)]
    exact s7 _ _ e2) hfv
  have in7 : InD (sp :: [sl, tp, ca]) H7 := fun y hy => by
    rcases List.mem_cons.mp hy with rfl | hy
    · rw [hsp7]; exact fun z => nomatch z
    · exact same_al s7 (in6 y hy)
  refine ⟨fv, T, T, [], sp, [], sp :: [sl, tp, ca], rfl, sub_nil T, by omega, by omega, by omega, in7, List.mem_cons_self .., hfv7, hsp7, by rw [idx_nil, List.take_zero]; exact .nil, fun H8 RB g8 hsp8 hfresh hnd hrows hemp => ?_⟩
  have hrl : RB.length = T.nodes := by
    rw [pair_len hrows, List.length_map, ad_len]
  have hsp8' : H8 sp = some (.lst (RB.map fun x => V.ref x.1)) := hsp8
  have t8 : Tape K H8 tp ca := tape_gos t7 g8 (fun z => (t6.new hsp) (List.mem_singleton.mp z).symm) (fun z => (t6.newC hsp) (List.mem_singleton.mp z).symm)
  have freshB : ∀ y ∈ RB.map Prod.snd, H7 y = none := fun y hy => by
    obtain ⟨x, hx, rfl⟩ := List.mem_map.mp hy
    exact hfresh x hx
  have tB : ∀ y ∈ tps tp ca, y ∉ RB.map Prod.snd := fun y hy z => by
    have h := freshB y z
    rcases List.mem_cons.mp hy with rfl | hy
    · obtain ⟨u, e⟩ := t7.some; rw [e] at h; exact nomatch h
    · rw [List.mem_singleton.mp hy] at h
      obtain ⟨u, e⟩ := t7.someC; rw [e] at h; exact nomatch h
  have spB : sp ∉ RB.map Prod.snd ++ tps tp ca := fun z => by
    rcases List.mem_append.mp z with z | z
    · have h := freshB sp z
      rw [hsp7] at h
      exact nomatch h
    · exact tps_no t6 hsp z
  obtain ⟨S, hSe⟩ : ∃ S, S = RB.map Prod.snd ++ tps tp ca := ⟨_, rfl⟩
  have tS : ∀ y ∈ tps tp ca, y ∈ S := fun y hy => by rw [hSe]; exact List.mem_append_right _ hy
  have bS : ∀ y ∈ RB.map Prod.snd, y ∈ S := fun y hy => by rw [hSe]; exact List.mem_append_left _ hy
  have subS : ∀ y ∈ S, y ∈ RB.map Prod.snd ++ (sp :: [sl, tp, ca]) := fun y hy => by
    rw [hSe] at hy
    rcases List.mem_append.mp hy with hy | hy
    · exact List.mem_append_left _ hy
    · exact List.mem_append_right _ (List.mem_cons_of_mem _ (List.mem_cons_of_mem _ hy))
  have e8 : SpE K S H8 sp T RB (fun _ => []) := ⟨⟨by rw [offS_ne (by rw [hSe]; exact spB)]; exact hsp8', by
      have : Paired (RowP K (offS (RB.map Prod.snd ++ (sp :: [sl, tp, ca])) H8) T) RB (ad T) := by
        have e : (ad T).map (([] : Ad) ++ ·) = ad T := List.map_id _
        rw [e] at hrows
        exact hrows
      exact pair_mono (fun _ _ => RowP.same (offS_sub subS)) this⟩, bS, (fun y hy => by
      rw [hSe] at hy
      rcases List.mem_append.mp hy with hy | hy
      · obtain ⟨x, hx, rfl⟩ := List.mem_map.mp hy
        rw [hemp x hx]
        exact fun z => nomatch z
      · rcases List.mem_cons.mp hy with rfl | hy
        · obtain ⟨u, e⟩ := t8.some; rw [e]; exact fun z => nomatch z
        · rw [List.mem_singleton.mp hy]
          obtain ⟨u, e⟩ := t8.someC; rw [e]; exact fun z => nomatch z), hnd, by rw [List.length_map, hrl], fun p hp => by
      obtain ⟨u, hu⟩ := ad_sub hp
      have h1 := idx_lt hu
      have h2 := u.nodes_pos
      have hx : RB[T.idx p]? = some (RB[T.idx p]'(by omega)) := List.getElem?_eq_getElem (by omega)
      exact ⟨_, [], by rw [List.getElem?_map, hx]; rfl, hemp _ (List.mem_of_getElem? hx), .nil⟩⟩
  have hfv8 : ShV K (offS S H8) fv T := same_shv (fun y o e => by
    obtain ⟨e1, e2⟩ := offS_some e
    rw [offS_ne (fun z => ?_)]
    · exact g8.at e2 fun z => e1 (by rw [List.mem_singleton.mp z]; exact List.mem_cons_self ..)
    · rw [hSe] at z
      rcases List.mem_append.mp z with z | z
      · rw [freshB y z] at e2
        exact nomatch e2
      · exact e1 (List.mem_cons_of_mem _ (List.mem_cons_of_mem _ z))) hfv7
  -- the story
  refine ⟨_, rfl, _, rfl, tp, ca, sp, S, T, RB, fun _ => [], rfl, t8, tS, tB, e8, by omega, by omega, fun H9 a0 es0 R9 _ ha0 ok0 l0' => ?_⟩
  have e9 := e8.keep R9.g tS tB
  refine ⟨a0, S, T, es0, rfl, e9.ind, ha0, ok0, l0', by omega, fun H10 a1 es s10 ha1 ok l1 => ?_⟩
  have e10 := e9.same s10
  have R810 := R9.same s10
  refine ⟨_, rfl, _, rfl, sp, a1, S, T, RB, es, rfl, e10, ha1, ok, l1, by omega, by omega, fun H11 g gs ps L' B' g11 e11 hps run rel hBl hg0 hg11 hgs => ?_⟩
  have t11 : Tape K H11 tp ca := tape_gos R810.b g11 (fun z => tB tp (List.mem_cons_self ..) z) (fun z => tB ca (List.mem_cons_of_mem _ (List.mem_singleton.mpr rfl)) z)
  have gD11 : GoD S H10 H11 := g11.d bS
  have ha11 : Dp K (offS S H11) (.ref a1) (.tuple (evDs ps)) := by
    rw [evDs_map, hps]
    exact dp_same gD11 ha1
  have hfv11 : ShV K (offS S H11) fv T := same_shv (Same.trans (R810.g.d tS) gD11) hfv8
  have hpl : ps.length ≤ 70 := by
    have := congrArg List.length hps
    rw [List.length_map] at this
    omega
  have psnd : (numsE ps).Nodup := by
    rw [numsE_nos, hps]
    exact ok.nd
  have gT : g ∉ tps tp ca := tps_no R810.b hg0
  have psg := run_evg run
  have nps : ∀ y ∈ tps tp ca, ∃ o, H11 y = some o ∧ LDc o := fun y hy => by
    obtain ⟨cs, st, _, h2, h3, _⟩ := t11
    rcases List.mem_cons.mp hy with rfl | hy
    · exact ⟨_, h2, .inl ⟨_, rfl⟩⟩
    · rw [List.mem_singleton.mp hy]
      exact ⟨_, h3, .inl ⟨_, rfl⟩⟩
  refine ⟨_, rfl, _, rfl, tps tp ca, fv, .ref a1, T, ps, L', rfl, nps, shv_dtv (same_shv offS_same hfv11), hsz, hgd, hT15, by omega, dp_onS ha11, by omega, run, psnd, fun H12 rt tl dl al ta la sd Ls kv s12 _ hrt htl sj hfr _ _ => ?_⟩
  refine ⟨rt, _, rfl, SqT.of hrt, rfl, _, _, rfl, _, _, rfl, rfl, ?_⟩
  have bw : BW K C CS S (dl :: ((sd :: Ls) ++ tps tp ca)) H12 tp ca sp a1 g al ta la sd Ls T RB B' ps gs L' kv := ⟨t11.same s12, tS, tB, (fun y hy => List.mem_cons_of_mem _ (List.mem_append_right _ hy)), ?_, gT, e11.same s12, dp_same (GoD.of s12) ha11, s12 _ _ hg11, dps_same (GoD.of s12) hgs, sj.st, ⟨sj.st.rk, sj.st.pw, sj.se, sj.sz, sj.gd, by omega, sj.sm⟩⟩
  rotate_left
  · intro y hy z
    obtain ⟨o, e, _⟩ := nps y hy
    rw [hfr y (List.mem_cons_of_mem _ z)] at e
    exact nomatch e
  have bs : BS T ps L' B' := ⟨run, psnd, hpl, rel, hBl, hgd, hT15, by omega, hsz⟩
  have gl := gonesT_len T ps
  have gsl := dps_len bw.gs
  -- the departures
  refine ⟨.ref tl, by simp [List.getElem?_set, L2.start], .ref g, by simp [List.getElem?_set, L2.start], g, rfl, ⟨_, SqL.of bw.hg⟩, fun Dl hDl => ?_⟩
  refine lc_list (K := K) (a := g) (xs := gs) (fun i H' => Same H12 H' ∧ ∃ vs, H' Dl = some (.lst vs) ∧ vs.length ≤ i ∧ DpAll K (offS S H12) vs (((gonesT T ps).take i).flatMap firstD)) ⟨same_new hDl, [], upd_same, Nat.le_refl _, .nil⟩ (fun i H' _ ⟨s, _⟩ => SqL.of (s _ _ bw.hg)) ?_ ?_
  · rintro i x H6 hx ⟨s6, vs, hD, hvl, hvs⟩
    have hil := (List.getElem?_eq_some_iff.mp hx).1
    obtain ⟨d, hd1, hd2⟩ := dps_at bw.gs hx
    obtain ⟨d1, m, rfl⟩ := gonesT_mem (List.mem_of_getElem? hd1)
    have etk : (gonesT T ps).take (i + 1) = (gonesT T ps).take i ++ [.tuple [d1, .int m]] := by rw [List.take_add_one, hd1]; rfl
    cases hd2 with
    | @tup gt gx _ hgt hgx =>
    cases hgx with
    | @cons g1 _ _ _ f1 hgx =>
    have hgt6 := same_sqt (Same.trans offS_same s6) hgt
    refine ⟨wipe1, _, rd1 (by simp only [List.length_set]; show 9 < 12; decide), gt, _, 0, _, rfl, rfl, hgt6, atI_0 rfl, vs, hD, small1000 (by omega), same_mut s6 hDl, vs ++ [g1], upd_same, by rw [List.length_append]; show _ + 1 ≤ _; omega, ?_⟩
    rw [etk, List.flatMap_append]
    exact dps_app hvs (.cons f1 .nil)
  rintro H13 ⟨s13, vs, hD, _, hvs⟩
  rw [gsl, List.take_length, gones_first] at hvs
  refine ⟨Dl, vs, rfl, .inl ⟨SqL.of hD, fun lt hlt => ?_⟩⟩
  have s14 := s13.trans (same_new (o := .tup vs) hlt)
  have hlt14 : Dp K (upd H13 lt (.tup vs)) (.ref lt) (.tuple (gonesP ps)) := .tup (SqT.of upd_same) (dps_same (Same.trans (GoD.of (S := S) s14) offS_same) hvs)
  refine ⟨.ref tl, .ref lt, _, rfl, .tup (SqT.of (s14 _ _ htl)) (gones_dp _), hlt14, ⟨by have := gonesV_len ps; rw [← dps_len (gones_dp (K := K) (H := H12) ps)]; omega, gonesP_pl (n := 18) _⟩, fun H15 s15 => ⟨_, rfl, iteF ?_⟩⟩
  have R15 : Rn K tp ca H12 H15 := Rn.of bw.t (s14.trans s15)
  have bw15 := bw.rn R15
  have rln : ((RB.map fun x => V.ref x.1).length) = T.nodes := by rw [List.length_map, hrl]
  refine ⟨.ref tp, by simp [List.getElem?_set, L2.start], .ref sp, by simp [List.getElem?_set, L2.start], sp, _, rfl, .inl (SqL.of bw15.sp.rd.ln), _, _, rfl, rfl, 1, _, rfl, tp, ca, max 1 (T.nodes - 8), congrArg (fun z => [V.ref tp, V.int z]) (by rw [rln]; split <;> omega), bw15.t, by omega, by omega, fun H16 st hst R16 => ?_⟩
  have R016 := R15.trans R16
  have bw16 := bw.rn R016
  refine ⟨(by show 1 ≤ sizeLine; decide), fun p1 hp1 => ?_⟩
  have s17 := same_new (o := .lst [.int 0]) hp1
  have hp17 : (upd H16 p1 (.lst [.int 0])) p1 = some (.lst [.int 0]) := upd_same
  revert s17 hp17
  generalize upd H16 p1 (.lst [.int 0]) = H17
  intro s17 hp17
  have bw17 := bw16.rn (Rn.of bw16.t s17)
  refine ⟨.int (st : Nat), by simp [List.getElem?_set, L2.start], .ref sp, by simp [List.getElem?_set, L2.start], sp, _, rfl, .inl (SqL.of bw17.sp.rd.ln), .int (st : Nat), by simp [List.getElem?_set, L2.start], _, _, rfl, rfl, _, _, rfl, _, _, rfl, rfl, ?_⟩
  have emin : (if ((st : Nat) : Int) + 9 < (((RB.map fun x => V.ref x.1).length : Nat) : Int) then ((st : Nat) : Int) + 9 else (((RB.map fun x => V.ref x.1).length : Nat) : Int)) = ((min T.nodes (st + 9) : Nat) : Int) := by
    rw [rln]
    split <;> omega
  rw [emin]
  refine ⟨RgOk.of_le (by omega) (by omega) (by omega) (by omega), fun p2 hp2 => ?_⟩
  have s18 := same_new (o := .lst (rgV ((st : Nat) : Int) ((min T.nodes (st + 9) : Nat) : Int))) hp2
  have hp28 : (upd H17 p2 (.lst (rgV ((st : Nat) : Int) ((min T.nodes (st + 9) : Nat) : Int)))) p2 = some (.lst (rgV ((st : Nat) : Int) ((min T.nodes (st + 9) : Nat) : Int))) := upd_same
  have hp18 := s18 _ _ hp17
  revert s18 hp28 hp18
  generalize upd H17 p2 (.lst (rgV ((st : Nat) : Int) ((min T.nodes (st + 9) : Nat) : Int))) = H18
  intro s18 hp28 hp18
  have rgl : (rgV ((st : Nat) : Int) ((min T.nodes (st + 9) : Nat) : Int)).length ≤ 9 := by rw [rgV_length]; omega
  refine ⟨p1, p2, _, _, rfl, rfl, hp18, hp28, by show 1 + _ ≤ sizeLine; omega, fun p3 hp3 => ?_⟩
  have s19 := same_new (o := .lst ([.int 0] ++ rgV ((st : Nat) : Int) ((min T.nodes (st + 9) : Nat) : Int))) hp3
  have hp39 : (upd H18 p3 (.lst ([.int 0] ++ rgV ((st : Nat) : Int) ((min T.nodes (st + 9) : Nat) : Int)))) p3 = some (.lst ([.int 0] ++ rgV ((st : Nat) : Int) ((min T.nodes (st + 9) : Nat) : Int))) := upd_same
  revert s19 hp39
  generalize upd H18 p3 (.lst ([.int 0] ++ rgV ((st : Nat) : Int) ((min T.nodes (st + 9) : Nat) : Int))) = H19
  intro s19 hp39
  have R019 := R016.same (s17.trans (s18.trans s19))
  have bw19 := bw.rn R019
  have p3t : p3 ∉ tps tp ca := tps_no (R016.same (s17.trans s18)).b hp3
  refine ⟨p3, rfl, ⟨_, SqL.of hp39⟩, ?_⟩
  refine for_list (K := K) (a := p3) (xs := [.int 0] ++ rgV ((st : Nat) : Int) ((min T.nodes (st + 9) : Nat) : Int)) (fun i σ H' => ∃ o11 : Option V, σ = [some (.ref a), some (.ref tp), some (.int (rm : Nat)), some fv, some (.ref sp), some (.ref a1), some (.ref g), some (.ref tl), some (.ref al), none, some (.int (st : Nat)), o11] ∧ Rn K tp ca H19 H') ⟨none, by simp [L2.start], Rn.refl bw19.t⟩ (fun i σ H' _ ⟨_, _, R⟩ => SqL.of (R.at hp39 p3t)) ?_ ?_
  · rintro i x σ H20 hx ⟨o11, rfl, R20⟩
    obtain ⟨k, rfl, hk⟩ : ∃ k : Nat, x = .int (k : Nat) ∧ k < T.nodes := by
      have hnp := T.nodes_pos
      rcases List.mem_append.mp (List.mem_of_getElem? hx) with h | h
      · exact ⟨0, by rw [List.mem_singleton.mp h]; rfl, hnp⟩
      · unfold rgV at h
        obtain ⟨j, hj, rfl⟩ := List.mem_map.mp h
        have := List.mem_range.mp hj
        exact ⟨st + j, congrArg V.int (by omega), by omega⟩
    have hq : (ad T)[k]? = some ((ad T)[k]'(by rw [ad_len]; exact hk)) := List.getElem?_eq_getElem _
    generalize (ad T)[k]'(by rw [ad_len]; exact hk) = p at hq
    obtain ⟨u, hu⟩ := ad_sub (List.mem_of_getElem? hq)
    have hix := idx_of hq
    refine ⟨_, rfl, _, rfl, _, rfl, _, rfl, _, rfl, _, rfl, S, dl :: ((sd :: Ls) ++ tps tp ca), tp, ca, sp, a1, g, al, ta, la, sd, Ls, T, u, p, RB, B', ps, gs, L', kv, by rw [hix]; rfl, bw19.rn R20, bs, hu, fun H21 R21 => ⟨_, rfl, iteF ?_⟩⟩
    exact ⟨_, rfl, R20.trans R21⟩
  · rintro σ H20 ⟨o11, rfl, R20⟩
    have bw20 := bw19.rn R20
    have hfv20 : ShV K (offS S H20) fv T := same_shv (Same.trans (GoD.of (S := S) s12) ((R019.trans R20).g.d tS)) hfv11
    have hev : Dp K (offS S H20) (.ref a1) (.tuple (es.map evD)) := by
      have := bw20.ev
      rw [evDs_map, hps] at this
      exact this
    exact ⟨_, rfl, _, rfl, _, rfl, _, rfl, tp, ca, sp, a1, fv, S, T, RB, es, rfl, bw20.t, tS, bw20.sp.ind, bw20.sp.rw, hev, ok, l1, hfv20, hgd, hT15, by omega, hsz, fun H21 _ => q H21⟩
end
end K65
set_option Elab.async false
set_option linter.all false
set_option maxRecDepth 100000
set_option maxHeartbeats 8000000
namespace K65
open PySem PySem.Spec PyProof.Rows L2 Dt
section
variable {K : PySem.W.Frag} {h : Heap} {mg : Str → Option Value}
theorem defAt_of (X : K.In h) (G : h.Ns mainGlobals mg) {x : Str} {st : Stmt} {ps : List Str} {f : Addr} {oc kV doc pm cdv ct : Value} {od an : Option Addr} {osl : Array (Option Value)}
    (hb : ∀ (kV doc pm : Value) (an : Option Addr) (cdv ct : Value) (us : List Value), us.length = ps.length → bindArgs (PySem.W.fnOf x x (defArgs st) (defBody st) (defScope st) .none kV doc pm an cdv ct) ⟨us, []⟩ = pure (ps.zip us))
    (a : PySem.W.nsIn K mainGlobals x = some (some (.ref f))) (l : K.lookup f = some ⟨oc, od, .func (PySem.W.fnOf x x (defArgs st) (defBody st) (defScope st) .none kV doc pm an cdv ct), osl⟩) (c : PySem.W.codeIn K cdv x = true) (k : PySem.W.keepIn K (.ref f) = true) : DefAt K mg x st ps :=
  ⟨f, _, fun_mk l c k, PySem.W.mg_of X G a, (fun_mk l c k).binds hb⟩
theorem kwAt_of (X : K.In h) (G : h.Ns mainGlobals mg) {x : Str} {st : Stmt} {ps ks : List Str} {g : {α : Type} → List α → List α} {f : Addr} {oc kV doc pm cdv ct : Value} {od an : Option Addr} {osl : Array (Option Value)}
    (hk : ∀ (kV doc pm : Value) (an : Option Addr) (cdv ct : Value) (s : Shared) (ws : List Value), ws.length = ks.length → BindsTo s (PySem.W.fnOf x x (defArgs st) (defBody st) (defScope st) .none kV doc pm an cdv ct) ⟨[], ks.zip ws⟩ (ps.zip (g ws)))
    (hr : ∀ {zs : List V} {ws : List Value}, Vals zs ws → Vals (g zs) (g ws))
    (a : PySem.W.nsIn K mainGlobals x = some (some (.ref f))) (l : K.lookup f = some ⟨oc, od, .func (PySem.W.fnOf x x (defArgs st) (defBody st) (defScope st) .none kV doc pm an cdv ct), osl⟩) : KwAt K mg x ps ks g :=
  ⟨f, _, PySem.W.mg_of X G a, ⟨_, _, _, l⟩, ⟨fun s ws hw => hk _ _ _ _ _ _ s ws hw, hr⟩⟩
end
theorem da_is_integer {K : PySem.W.Frag} {h : Heap} {mg : Str → Option Value} (X : K.In h) (G : h.Ns mainGlobals mg) {f : Addr} {oc kV doc pm cdv ct : Value} {od an : Option Addr} {osl : Array (Option Value)}
    (a : PySem.W.nsIn K mainGlobals "is_integer" = some (some (.ref f))) (l : K.lookup f = some ⟨oc, od, .func (PySem.W.fnOf "is_integer" "is_integer" (defArgs s_is_integer) (defBody s_is_integer) (defScope s_is_integer) .none kV doc pm an cdv ct), osl⟩) (c : PySem.W.codeIn K cdv "is_integer" = true) (k : PySem.W.keepIn K (.ref f) = true) : DefAt K mg "is_integer" s_is_integer ["thing"] :=
  defAt_of X G (fun _ _ _ _ _ _ us hl => match us, hl with | [_], _ => rfl) a l c k
theorem da_is_number {K : PySem.W.Frag} {h : Heap} {mg : Str → Option Value} (X : K.In h) (G : h.Ns mainGlobals mg) {f : Addr} {oc kV doc pm cdv ct : Value} {od an : Option Addr} {osl : Array (Option Value)}
    (a : PySem.W.nsIn K mainGlobals "is_number" = some (some (.ref f))) (l : K.lookup f = some ⟨oc, od, .func (PySem.W.fnOf "is_number" "is_number" (defArgs s_is_number) (defBody s_is_number) (defScope s_is_number) .none kV doc pm an cdv ct), osl⟩) (c : PySem.W.codeIn K cdv "is_number" = true) (k : PySem.W.keepIn K (.ref f) = true) : DefAt K mg "is_number" s_is_number ["thing"] :=
  defAt_of X G (fun _ _ _ _ _ _ us hl => match us, hl with | [_], _ => rfl) a l c k
theorem da_is_below {K : PySem.W.Frag} {h : Heap} {mg : Str → Option Value} (X : K.In h) (G : h.Ns mainGlobals mg) {f : Addr} {oc kV doc pm cdv ct : Value} {od an : Option Addr} {osl : Array (Option Value)}
    (a : PySem.W.nsIn K mainGlobals "is_below" = some (some (.ref f))) (l : K.lookup f = some ⟨oc, od, .func (PySem.W.fnOf "is_below" "is_below" (defArgs s_is_below) (defBody s_is_below) (defScope s_is_below) .none kV doc pm an cdv ct), osl⟩) (c : PySem.W.codeIn K cdv "is_below" = true) (k : PySem.W.keepIn K (.ref f) = true) : DefAt K mg "is_below" s_is_below ["thing", "bound"] :=
  defAt_of X G (fun _ _ _ _ _ _ us hl => match us, hl with | [_, _], _ => rfl) a l c k
theorem da_need {K : PySem.W.Frag} {h : Heap} {mg : Str → Option Value} (X : K.In h) (G : h.Ns mainGlobals mg) {f : Addr} {oc kV doc pm cdv ct : Value} {od an : Option Addr} {osl : Array (Option Value)}
    (a : PySem.W.nsIn K mainGlobals "need" = some (some (.ref f))) (l : K.lookup f = some ⟨oc, od, .func (PySem.W.fnOf "need" "need" (defArgs s_need) (defBody s_need) (defScope s_need) .none kV doc pm an cdv ct), osl⟩) (c : PySem.W.codeIn K cdv "need" = true) (k : PySem.W.keepIn K (.ref f) = true) : DefAt K mg "need" s_need ["fits", "word"] :=
  defAt_of X G (fun _ _ _ _ _ _ us hl => match us, hl with | [_, _], _ => rfl) a l c k
theorem da_is_shape {K : PySem.W.Frag} {h : Heap} {mg : Str → Option Value} (X : K.In h) (G : h.Ns mainGlobals mg) {f : Addr} {oc kV doc pm cdv ct : Value} {od an : Option Addr} {osl : Array (Option Value)}
    (a : PySem.W.nsIn K mainGlobals "is_shape" = some (some (.ref f))) (l : K.lookup f = some ⟨oc, od, .func (PySem.W.fnOf "is_shape" "is_shape" (defArgs s_is_shape) (defBody s_is_shape) (defScope s_is_shape) .none kV doc pm an cdv ct), osl⟩) (c : PySem.W.codeIn K cdv "is_shape" = true) (k : PySem.W.keepIn K (.ref f) = true) : DefAt K mg "is_shape" s_is_shape ["thing"] :=
  defAt_of X G (fun _ _ _ _ _ _ us hl => match us, hl with | [_], _ => rfl) a l c k
theorem da_has_forks_of {K : PySem.W.Frag} {h : Heap} {mg : Str → Option Value} (X : K.In h) (G : h.Ns mainGlobals mg) {f : Addr} {oc kV doc pm cdv ct : Value} {od an : Option Addr} {osl : Array (Option Value)}
    (a : PySem.W.nsIn K mainGlobals "has_forks_of" = some (some (.ref f))) (l : K.lookup f = some ⟨oc, od, .func (PySem.W.fnOf "has_forks_of" "has_forks_of" (defArgs s_has_forks_of) (defBody s_has_forks_of) (defScope s_has_forks_of) .none kV doc pm an cdv ct), osl⟩) (c : PySem.W.codeIn K cdv "has_forks_of" = true) (k : PySem.W.keepIn K (.ref f) = true) : DefAt K mg "has_forks_of" s_has_forks_of ["thing", "least"] :=
  defAt_of X G (fun _ _ _ _ _ _ us hl => match us, hl with | [_, _], _ => rfl) a l c k
theorem da_need_shape {K : PySem.W.Frag} {h : Heap} {mg : Str → Option Value} (X : K.In h) (G : h.Ns mainGlobals mg) {f : Addr} {oc kV doc pm cdv ct : Value} {od an : Option Addr} {osl : Array (Option Value)}
    (a : PySem.W.nsIn K mainGlobals "need_shape" = some (some (.ref f))) (l : K.lookup f = some ⟨oc, od, .func (PySem.W.fnOf "need_shape" "need_shape" (defArgs s_need_shape) (defBody s_need_shape) (defScope s_need_shape) .none kV doc pm an cdv ct), osl⟩) (c : PySem.W.codeIn K cdv "need_shape" = true) (k : PySem.W.keepIn K (.ref f) = true) : DefAt K mg "need_shape" s_need_shape ["form", "word"] :=
  defAt_of X G (fun _ _ _ _ _ _ us hl => match us, hl with | [_, _], _ => rfl) a l c k
theorem da_need_node {K : PySem.W.Frag} {h : Heap} {mg : Str → Option Value} (X : K.In h) (G : h.Ns mainGlobals mg) {f : Addr} {oc kV doc pm cdv ct : Value} {od an : Option Addr} {osl : Array (Option Value)}
    (a : PySem.W.nsIn K mainGlobals "need_node" = some (some (.ref f))) (l : K.lookup f = some ⟨oc, od, .func (PySem.W.fnOf "need_node" "need_node" (defArgs s_need_node) (defBody s_need_node) (defScope s_need_node) .none kV doc pm an cdv ct), osl⟩) (c : PySem.W.codeIn K cdv "need_node" = true) (k : PySem.W.keepIn K (.ref f) = true) : DefAt K mg "need_node" s_need_node ["tree", "node", "word"] :=
  defAt_of X G (fun _ _ _ _ _ _ us hl => match us, hl with | [_, _, _], _ => rfl) a l c k
theorem da_need_queue {K : PySem.W.Frag} {h : Heap} {mg : Str → Option Value} (X : K.In h) (G : h.Ns mainGlobals mg) {f : Addr} {oc kV doc pm cdv ct : Value} {od an : Option Addr} {osl : Array (Option Value)}
    (a : PySem.W.nsIn K mainGlobals "need_queue" = some (some (.ref f))) (l : K.lookup f = some ⟨oc, od, .func (PySem.W.fnOf "need_queue" "need_queue" (defArgs s_need_queue) (defBody s_need_queue) (defScope s_need_queue) .none kV doc pm an cdv ct), osl⟩) (c : PySem.W.codeIn K cdv "need_queue" = true) (k : PySem.W.keepIn K (.ref f) = true) : DefAt K mg "need_queue" s_need_queue ["tree", "queue", "word"] :=
  defAt_of X G (fun _ _ _ _ _ _ us hl => match us, hl with | [_, _, _], _ => rfl) a l c k
theorem da_shape_tree {K : PySem.W.Frag} {h : Heap} {mg : Str → Option Value} (X : K.In h) (G : h.Ns mainGlobals mg) {f : Addr} {oc kV doc pm cdv ct : Value} {od an : Option Addr} {osl : Array (Option Value)}
    (a : PySem.W.nsIn K mainGlobals "shape_tree" = some (some (.ref f))) (l : K.lookup f = some ⟨oc, od, .func (PySem.W.fnOf "shape_tree" "shape_tree" (defArgs s_shape_tree) (defBody s_shape_tree) (defScope s_shape_tree) .none kV doc pm an cdv ct), osl⟩) (c : PySem.W.codeIn K cdv "shape_tree" = true) (k : PySem.W.keepIn K (.ref f) = true) : DefAt K mg "shape_tree" s_shape_tree ["form", "word"] :=
  defAt_of X G (fun _ _ _ _ _ _ us hl => match us, hl with | [_, _], _ => rfl) a l c k
theorem da_is_rank {K : PySem.W.Frag} {h : Heap} {mg : Str → Option Value} (X : K.In h) (G : h.Ns mainGlobals mg) {f : Addr} {oc kV doc pm cdv ct : Value} {od an : Option Addr} {osl : Array (Option Value)}
    (a : PySem.W.nsIn K mainGlobals "is_rank" = some (some (.ref f))) (l : K.lookup f = some ⟨oc, od, .func (PySem.W.fnOf "is_rank" "is_rank" (defArgs s_is_rank) (defBody s_is_rank) (defScope s_is_rank) .none kV doc pm an cdv ct), osl⟩) (c : PySem.W.codeIn K cdv "is_rank" = true) (k : PySem.W.keepIn K (.ref f) = true) : DefAt K mg "is_rank" s_is_rank ["thing"] :=
  defAt_of X G (fun _ _ _ _ _ _ us hl => match us, hl with | [_], _ => rfl) a l c k
theorem da_fit_path {K : PySem.W.Frag} {h : Heap} {mg : Str → Option Value} (X : K.In h) (G : h.Ns mainGlobals mg) {f : Addr} {oc kV doc pm cdv ct : Value} {od an : Option Addr} {osl : Array (Option Value)}
    (a : PySem.W.nsIn K mainGlobals "fit_path" = some (some (.ref f))) (l : K.lookup f = some ⟨oc, od, .func (PySem.W.fnOf "fit_path" "fit_path" (defArgs s_fit_path) (defBody s_fit_path) (defScope s_fit_path) .none kV doc pm an cdv ct), osl⟩) (c : PySem.W.codeIn K cdv "fit_path" = true) (k : PySem.W.keepIn K (.ref f) = true) : DefAt K mg "fit_path" s_fit_path ["tree", "queue", "thing"] :=
  defAt_of X G (fun _ _ _ _ _ _ us hl => match us, hl with | [_, _, _], _ => rfl) a l c k
theorem da_is_way {K : PySem.W.Frag} {h : Heap} {mg : Str → Option Value} (X : K.In h) (G : h.Ns mainGlobals mg) {f : Addr} {oc kV doc pm cdv ct : Value} {od an : Option Addr} {osl : Array (Option Value)}
    (a : PySem.W.nsIn K mainGlobals "is_way" = some (some (.ref f))) (l : K.lookup f = some ⟨oc, od, .func (PySem.W.fnOf "is_way" "is_way" (defArgs s_is_way) (defBody s_is_way) (defScope s_is_way) .none kV doc pm an cdv ct), osl⟩) (c : PySem.W.codeIn K cdv "is_way" = true) (k : PySem.W.keepIn K (.ref f) = true) : DefAt K mg "is_way" s_is_way ["tree", "queue", "ranks"] :=
  defAt_of X G (fun _ _ _ _ _ _ us hl => match us, hl with | [_, _, _], _ => rfl) a l c k
theorem da_are_events {K : PySem.W.Frag} {h : Heap} {mg : Str → Option Value} (X : K.In h) (G : h.Ns mainGlobals mg) {f : Addr} {oc kV doc pm cdv ct : Value} {od an : Option Addr} {osl : Array (Option Value)}
    (a : PySem.W.nsIn K mainGlobals "are_events" = some (some (.ref f))) (l : K.lookup f = some ⟨oc, od, .func (PySem.W.fnOf "are_events" "are_events" (defArgs s_are_events) (defBody s_are_events) (defScope s_are_events) .none kV doc pm an cdv ct), osl⟩) (c : PySem.W.codeIn K cdv "are_events" = true) (k : PySem.W.keepIn K (.ref f) = true) : DefAt K mg "are_events" s_are_events ["tree", "thing"] :=
  defAt_of X G (fun _ _ _ _ _ _ us hl => match us, hl with | [_, _], _ => rfl) a l c k
theorem da_is_event {K : PySem.W.Frag} {h : Heap} {mg : Str → Option Value} (X : K.In h) (G : h.Ns mainGlobals mg) {f : Addr} {oc kV doc pm cdv ct : Value} {od an : Option Addr} {osl : Array (Option Value)}
    (a : PySem.W.nsIn K mainGlobals "is_event" = some (some (.ref f))) (l : K.lookup f = some ⟨oc, od, .func (PySem.W.fnOf "is_event" "is_event" (defArgs s_is_event) (defBody s_is_event) (defScope s_is_event) .none kV doc pm an cdv ct), osl⟩) (c : PySem.W.codeIn K cdv "is_event" = true) (k : PySem.W.keepIn K (.ref f) = true) : DefAt K mg "is_event" s_is_event ["tree", "thing"] :=
  defAt_of X G (fun _ _ _ _ _ _ us hl => match us, hl with | [_, _], _ => rfl) a l c k
theorem da_place_behind {K : PySem.W.Frag} {h : Heap} {mg : Str → Option Value} (X : K.In h) (G : h.Ns mainGlobals mg) {f : Addr} {oc kV doc pm cdv ct : Value} {od an : Option Addr} {osl : Array (Option Value)}
    (a : PySem.W.nsIn K mainGlobals "place_behind" = some (some (.ref f))) (l : K.lookup f = some ⟨oc, od, .func (PySem.W.fnOf "place_behind" "place_behind" (defArgs s_place_behind) (defBody s_place_behind) (defScope s_place_behind) .none kV doc pm an cdv ct), osl⟩) (c : PySem.W.codeIn K cdv "place_behind" = true) (k : PySem.W.keepIn K (.ref f) = true) : DefAt K mg "place_behind" s_place_behind ["line", "rank"] :=
  defAt_of X G (fun _ _ _ _ _ _ us hl => match us, hl with | [_, _], _ => rfl) a l c k
theorem da_need_standing {K : PySem.W.Frag} {h : Heap} {mg : Str → Option Value} (X : K.In h) (G : h.Ns mainGlobals mg) {f : Addr} {oc kV doc pm cdv ct : Value} {od an : Option Addr} {osl : Array (Option Value)}
    (a : PySem.W.nsIn K mainGlobals "need_standing" = some (some (.ref f))) (l : K.lookup f = some ⟨oc, od, .func (PySem.W.fnOf "need_standing" "need_standing" (defArgs s_need_standing) (defBody s_need_standing) (defScope s_need_standing) .none kV doc pm an cdv ct), osl⟩) (c : PySem.W.codeIn K cdv "need_standing" = true) (k : PySem.W.keepIn K (.ref f) = true) : DefAt K mg "need_standing" s_need_standing ["standing", "word"] :=
  defAt_of X G (fun _ _ _ _ _ _ us hl => match us, hl with | [_, _], _ => rfl) a l c k
theorem da_need_absent {K : PySem.W.Frag} {h : Heap} {mg : Str → Option Value} (X : K.In h) (G : h.Ns mainGlobals mg) {f : Addr} {oc kV doc pm cdv ct : Value} {od an : Option Addr} {osl : Array (Option Value)}
    (a : PySem.W.nsIn K mainGlobals "need_absent" = some (some (.ref f))) (l : K.lookup f = some ⟨oc, od, .func (PySem.W.fnOf "need_absent" "need_absent" (defArgs s_need_absent) (defBody s_need_absent) (defScope s_need_absent) .none kV doc pm an cdv ct), osl⟩) (c : PySem.W.codeIn K cdv "need_absent" = true) (k : PySem.W.keepIn K (.ref f) = true) : DefAt K mg "need_absent" s_need_absent ["standing", "number"] :=
  defAt_of X G (fun _ _ _ _ _ _ us hl => match us, hl with | [_, _], _ => rfl) a l c k
theorem da_standing_with {K : PySem.W.Frag} {h : Heap} {mg : Str → Option Value} (X : K.In h) (G : h.Ns mainGlobals mg) {f : Addr} {oc kV doc pm cdv ct : Value} {od an : Option Addr} {osl : Array (Option Value)}
    (a : PySem.W.nsIn K mainGlobals "standing_with" = some (some (.ref f))) (l : K.lookup f = some ⟨oc, od, .func (PySem.W.fnOf "standing_with" "standing_with" (defArgs s_standing_with) (defBody s_standing_with) (defScope s_standing_with) .none kV doc pm an cdv ct), osl⟩) (c : PySem.W.codeIn K cdv "standing_with" = true) (k : PySem.W.keepIn K (.ref f) = true) : DefAt K mg "standing_with" s_standing_with ["form", "lines"] :=
  defAt_of X G (fun _ _ _ _ _ _ us hl => match us, hl with | [_, _], _ => rfl) a l c k
theorem da_bough_events {K : PySem.W.Frag} {h : Heap} {mg : Str → Option Value} (X : K.In h) (G : h.Ns mainGlobals mg) {f : Addr} {oc kV doc pm cdv ct : Value} {od an : Option Addr} {osl : Array (Option Value)}
    (a : PySem.W.nsIn K mainGlobals "bough_events" = some (some (.ref f))) (l : K.lookup f = some ⟨oc, od, .func (PySem.W.fnOf "bough_events" "bough_events" (defArgs s_bough_events) (defBody s_bough_events) (defScope s_bough_events) .none kV doc pm an cdv ct), osl⟩) (c : PySem.W.codeIn K cdv "bough_events" = true) (k : PySem.W.keepIn K (.ref f) = true) : (DefAt K mg "bough_events" s_bough_events ["form", "events", "node"]) ∧ KwAt K mg "bough_events" ["form", "events", "node"] ["node", "events", "form"] revL :=
  ⟨defAt_of X G (fun _ _ _ _ _ _ us hl => match us, hl with | [_, _, _], _ => rfl) a l c k, kwAt_of X G (fun _ _ _ _ _ _ _ ws hl => match ws, hl with | [_, _, _], _ => .of_eq rfl) revL_rel a l⟩
theorem da_play_events {K : PySem.W.Frag} {h : Heap} {mg : Str → Option Value} (X : K.In h) (G : h.Ns mainGlobals mg) {f : Addr} {oc kV doc pm cdv ct : Value} {od an : Option Addr} {osl : Array (Option Value)}
    (a : PySem.W.nsIn K mainGlobals "play_events" = some (some (.ref f))) (l : K.lookup f = some ⟨oc, od, .func (PySem.W.fnOf "play_events" "play_events" (defArgs s_play_events) (defBody s_play_events) (defScope s_play_events) .none kV doc pm an cdv ct), osl⟩) (c : PySem.W.codeIn K cdv "play_events" = true) (k : PySem.W.keepIn K (.ref f) = true) : DefAt K mg "play_events" s_play_events ["form", "events"] :=
  defAt_of X G (fun _ _ _ _ _ _ us hl => match us, hl with | [_, _], _ => rfl) a l c k
theorem da_packet_gone {K : PySem.W.Frag} {h : Heap} {mg : Str → Option Value} (X : K.In h) (G : h.Ns mainGlobals mg) {f : Addr} {oc kV doc pm cdv ct : Value} {od an : Option Addr} {osl : Array (Option Value)}
    (a : PySem.W.nsIn K mainGlobals "packet_gone" = some (some (.ref f))) (l : K.lookup f = some ⟨oc, od, .func (PySem.W.fnOf "packet_gone" "packet_gone" (defArgs s_packet_gone) (defBody s_packet_gone) (defScope s_packet_gone) .none kV doc pm an cdv ct), osl⟩) (c : PySem.W.codeIn K cdv "packet_gone" = true) (k : PySem.W.keepIn K (.ref f) = true) : DefAt K mg "packet_gone" s_packet_gone ["standing"] :=
  defAt_of X G (fun _ _ _ _ _ _ us hl => match us, hl with | [_], _ => rfl) a l c k
theorem da_bough_standing {K : PySem.W.Frag} {h : Heap} {mg : Str → Option Value} (X : K.In h) (G : h.Ns mainGlobals mg) {f : Addr} {oc kV doc pm cdv ct : Value} {od an : Option Addr} {osl : Array (Option Value)}
    (a : PySem.W.nsIn K mainGlobals "bough_standing" = some (some (.ref f))) (l : K.lookup f = some ⟨oc, od, .func (PySem.W.fnOf "bough_standing" "bough_standing" (defArgs s_bough_standing) (defBody s_bough_standing) (defScope s_bough_standing) .none kV doc pm an cdv ct), osl⟩) (c : PySem.W.codeIn K cdv "bough_standing" = true) (k : PySem.W.keepIn K (.ref f) = true) : DefAt K mg "bough_standing" s_bough_standing ["standing", "node"] :=
  defAt_of X G (fun _ _ _ _ _ _ us hl => match us, hl with | [_, _], _ => rfl) a l c k
theorem da_law_tape {K : PySem.W.Frag} {h : Heap} {mg : Str → Option Value} (X : K.In h) (G : h.Ns mainGlobals mg) {f : Addr} {oc kV doc pm cdv ct : Value} {od an : Option Addr} {osl : Array (Option Value)}
    (a : PySem.W.nsIn K mainGlobals "_law_tape" = some (some (.ref f))) (l : K.lookup f = some ⟨oc, od, .func (PySem.W.fnOf "_law_tape" "_law_tape" (defArgs s_law_tape) (defBody s_law_tape) (defScope s_law_tape) .none kV doc pm an cdv ct), osl⟩) (c : PySem.W.codeIn K cdv "_law_tape" = true) (k : PySem.W.keepIn K (.ref f) = true) : DefAt K mg "_law_tape" s_law_tape ["script"] :=
  defAt_of X G (fun _ _ _ _ _ _ us hl => match us, hl with | [_], _ => rfl) a l c k
theorem da_law_pick {K : PySem.W.Frag} {h : Heap} {mg : Str → Option Value} (X : K.In h) (G : h.Ns mainGlobals mg) {f : Addr} {oc kV doc pm cdv ct : Value} {od an : Option Addr} {osl : Array (Option Value)}
    (a : PySem.W.nsIn K mainGlobals "_law_pick" = some (some (.ref f))) (l : K.lookup f = some ⟨oc, od, .func (PySem.W.fnOf "_law_pick" "_law_pick" (defArgs s_law_pick) (defBody s_law_pick) (defScope s_law_pick) .none kV doc pm an cdv ct), osl⟩) (c : PySem.W.codeIn K cdv "_law_pick" = true) (k : PySem.W.keepIn K (.ref f) = true) : DefAt K mg "_law_pick" s_law_pick ["tape", "many"] :=
  defAt_of X G (fun _ _ _ _ _ _ us hl => match us, hl with | [_, _], _ => rfl) a l c k
theorem da_law_same {K : PySem.W.Frag} {h : Heap} {mg : Str → Option Value} (X : K.In h) (G : h.Ns mainGlobals mg) {f : Addr} {oc kV doc pm cdv ct : Value} {od an : Option Addr} {osl : Array (Option Value)}
    (a : PySem.W.nsIn K mainGlobals "_law_same" = some (some (.ref f))) (l : K.lookup f = some ⟨oc, od, .func (PySem.W.fnOf "_law_same" "_law_same" (defArgs s_law_same) (defBody s_law_same) (defScope s_law_same) .none kV doc pm an cdv ct), osl⟩) (c : PySem.W.codeIn K cdv "_law_same" = true) (k : PySem.W.keepIn K (.ref f) = true) : DefAt K mg "_law_same" s_law_same ["told", "due"] :=
  defAt_of X G (fun _ _ _ _ _ _ us hl => match us, hl with | [_, _], _ => rfl) a l c k
theorem da_law_shape {K : PySem.W.Frag} {h : Heap} {mg : Str → Option Value} (X : K.In h) (G : h.Ns mainGlobals mg) {f : Addr} {oc kV doc pm cdv ct : Value} {od an : Option Addr} {osl : Array (Option Value)}
    (a : PySem.W.nsIn K mainGlobals "_law_shape" = some (some (.ref f))) (l : K.lookup f = some ⟨oc, od, .func (PySem.W.fnOf "_law_shape" "_law_shape" (defArgs s_law_shape) (defBody s_law_shape) (defScope s_law_shape) .none kV doc pm an cdv ct), osl⟩) (c : PySem.W.codeIn K cdv "_law_shape" = true) (k : PySem.W.keepIn K (.ref f) = true) : DefAt K mg "_law_shape" s_law_shape ["tape", "room", "deep", "spare"] :=
  defAt_of X G (fun _ _ _ _ _ _ us hl => match us, hl with | [_, _, _, _], _ => rfl) a l c k
theorem da_law_spots {K : PySem.W.Frag} {h : Heap} {mg : Str → Option Value} (X : K.In h) (G : h.Ns mainGlobals mg) {f : Addr} {oc kV doc pm cdv ct : Value} {od an : Option Addr} {osl : Array (Option Value)}
    (a : PySem.W.nsIn K mainGlobals "_law_spots" = some (some (.ref f))) (l : K.lookup f = some ⟨oc, od, .func (PySem.W.fnOf "_law_spots" "_law_spots" (defArgs s_law_spots) (defBody s_law_spots) (defScope s_law_spots) .none kV doc pm an cdv ct), osl⟩) (c : PySem.W.codeIn K cdv "_law_spots" = true) (k : PySem.W.keepIn K (.ref f) = true) : DefAt K mg "_law_spots" s_law_spots ["figure", "above", "slot", "depth", "spots"] :=
  defAt_of X G (fun _ _ _ _ _ _ us hl => match us, hl with | [_, _, _, _, _], _ => rfl) a l c k
theorem da_law_rank {K : PySem.W.Frag} {h : Heap} {mg : Str → Option Value} (X : K.In h) (G : h.Ns mainGlobals mg) {f : Addr} {oc kV doc pm cdv ct : Value} {od an : Option Addr} {osl : Array (Option Value)}
    (a : PySem.W.nsIn K mainGlobals "_law_rank" = some (some (.ref f))) (l : K.lookup f = some ⟨oc, od, .func (PySem.W.fnOf "_law_rank" "_law_rank" (defArgs s_law_rank) (defBody s_law_rank) (defScope s_law_rank) .none kV doc pm an cdv ct), osl⟩) (c : PySem.W.codeIn K cdv "_law_rank" = true) (k : PySem.W.keepIn K (.ref f) = true) : DefAt K mg "_law_rank" s_law_rank ["tape"] :=
  defAt_of X G (fun _ _ _ _ _ _ us hl => match us, hl with | [_], _ => rfl) a l c k
theorem da_law_depth {K : PySem.W.Frag} {h : Heap} {mg : Str → Option Value} (X : K.In h) (G : h.Ns mainGlobals mg) {f : Addr} {oc kV doc pm cdv ct : Value} {od an : Option Addr} {osl : Array (Option Value)}
    (a : PySem.W.nsIn K mainGlobals "_law_depth" = some (some (.ref f))) (l : K.lookup f = some ⟨oc, od, .func (PySem.W.fnOf "_law_depth" "_law_depth" (defArgs s_law_depth) (defBody s_law_depth) (defScope s_law_depth) .none kV doc pm an cdv ct), osl⟩) (c : PySem.W.codeIn K cdv "_law_depth" = true) (k : PySem.W.keepIn K (.ref f) = true) : DefAt K mg "_law_depth" s_law_depth ["spots", "queue"] :=
  defAt_of X G (fun _ _ _ _ _ _ us hl => match us, hl with | [_, _], _ => rfl) a l c k
theorem da_law_story {K : PySem.W.Frag} {h : Heap} {mg : Str → Option Value} (X : K.In h) (G : h.Ns mainGlobals mg) {f : Addr} {oc kV doc pm cdv ct : Value} {od an : Option Addr} {osl : Array (Option Value)}
    (a : PySem.W.nsIn K mainGlobals "_law_story" = some (some (.ref f))) (l : K.lookup f = some ⟨oc, od, .func (PySem.W.fnOf "_law_story" "_law_story" (defArgs s_law_story) (defBody s_law_story) (defScope s_law_story) .none kV doc pm an cdv ct), osl⟩) (c : PySem.W.codeIn K cdv "_law_story" = true) (k : PySem.W.keepIn K (.ref f) = true) : DefAt K mg "_law_story" s_law_story ["tape", "spots"] :=
  defAt_of X G (fun _ _ _ _ _ _ us hl => match us, hl with | [_, _], _ => rfl) a l c k
theorem da_law_play {K : PySem.W.Frag} {h : Heap} {mg : Str → Option Value} (X : K.In h) (G : h.Ns mainGlobals mg) {f : Addr} {oc kV doc pm cdv ct : Value} {od an : Option Addr} {osl : Array (Option Value)}
    (a : PySem.W.nsIn K mainGlobals "_law_play" = some (some (.ref f))) (l : K.lookup f = some ⟨oc, od, .func (PySem.W.fnOf "_law_play" "_law_play" (defArgs s_law_play) (defBody s_law_play) (defScope s_law_play) .none kV doc pm an cdv ct), osl⟩) (c : PySem.W.codeIn K cdv "_law_play" = true) (k : PySem.W.keepIn K (.ref f) = true) : DefAt K mg "_law_play" s_law_play ["spots", "story"] :=
  defAt_of X G (fun _ _ _ _ _ _ us hl => match us, hl with | [_, _], _ => rfl) a l c k
theorem da_law_line {K : PySem.W.Frag} {h : Heap} {mg : Str → Option Value} (X : K.In h) (G : h.Ns mainGlobals mg) {f : Addr} {oc kV doc pm cdv ct : Value} {od an : Option Addr} {osl : Array (Option Value)}
    (a : PySem.W.nsIn K mainGlobals "_law_line" = some (some (.ref f))) (l : K.lookup f = some ⟨oc, od, .func (PySem.W.fnOf "_law_line" "_law_line" (defArgs s_law_line) (defBody s_law_line) (defScope s_law_line) .none kV doc pm an cdv ct), osl⟩) (c : PySem.W.codeIn K cdv "_law_line" = true) (k : PySem.W.keepIn K (.ref f) = true) : DefAt K mg "_law_line" s_law_line ["row"] :=
  defAt_of X G (fun _ _ _ _ _ _ us hl => match us, hl with | [_], _ => rfl) a l c k
theorem da_law_due {K : PySem.W.Frag} {h : Heap} {mg : Str → Option Value} (X : K.In h) (G : h.Ns mainGlobals mg) {f : Addr} {oc kV doc pm cdv ct : Value} {od an : Option Addr} {osl : Array (Option Value)}
    (a : PySem.W.nsIn K mainGlobals "_law_due" = some (some (.ref f))) (l : K.lookup f = some ⟨oc, od, .func (PySem.W.fnOf "_law_due" "_law_due" (defArgs s_law_due) (defBody s_law_due) (defScope s_law_due) .none kV doc pm an cdv ct), osl⟩) (c : PySem.W.codeIn K cdv "_law_due" = true) (k : PySem.W.keepIn K (.ref f) = true) : DefAt K mg "_law_due" s_law_due ["spots", "story", "gone", "spot"] :=
  defAt_of X G (fun _ _ _ _ _ _ us hl => match us, hl with | [_, _, _, _], _ => rfl) a l c k
theorem da_law_told {K : PySem.W.Frag} {h : Heap} {mg : Str → Option Value} (X : K.In h) (G : h.Ns mainGlobals mg) {f : Addr} {oc kV doc pm cdv ct : Value} {od an : Option Addr} {osl : Array (Option Value)}
    (a : PySem.W.nsIn K mainGlobals "_law_told" = some (some (.ref f))) (l : K.lookup f = some ⟨oc, od, .func (PySem.W.fnOf "_law_told" "_law_told" (defArgs s_law_told) (defBody s_law_told) (defScope s_law_told) .none kV doc pm an cdv ct), osl⟩) (c : PySem.W.codeIn K cdv "_law_told" = true) (k : PySem.W.keepIn K (.ref f) = true) : DefAt K mg "_law_told" s_law_told ["figure", "story", "spot", "named"] :=
  defAt_of X G (fun _ _ _ _ _ _ us hl => match us, hl with | [_, _, _, _], _ => rfl) a l c k
theorem da_law_bad_story {K : PySem.W.Frag} {h : Heap} {mg : Str → Option Value} (X : K.In h) (G : h.Ns mainGlobals mg) {f : Addr} {oc kV doc pm cdv ct : Value} {od an : Option Addr} {osl : Array (Option Value)}
    (a : PySem.W.nsIn K mainGlobals "_law_bad_story" = some (some (.ref f))) (l : K.lookup f = some ⟨oc, od, .func (PySem.W.fnOf "_law_bad_story" "_law_bad_story" (defArgs s_law_bad_story) (defBody s_law_bad_story) (defScope s_law_bad_story) .none kV doc pm an cdv ct), osl⟩) (c : PySem.W.codeIn K cdv "_law_bad_story" = true) (k : PySem.W.keepIn K (.ref f) = true) : DefAt K mg "_law_bad_story" s_law_bad_story ["tape", "spots", "story"] :=
  defAt_of X G (fun _ _ _ _ _ _ us hl => match us, hl with | [_, _, _], _ => rfl) a l c k
theorem da_law_cut {K : PySem.W.Frag} {h : Heap} {mg : Str → Option Value} (X : K.In h) (G : h.Ns mainGlobals mg) {f : Addr} {oc kV doc pm cdv ct : Value} {od an : Option Addr} {osl : Array (Option Value)}
    (a : PySem.W.nsIn K mainGlobals "_law_cut" = some (some (.ref f))) (l : K.lookup f = some ⟨oc, od, .func (PySem.W.fnOf "_law_cut" "_law_cut" (defArgs s_law_cut) (defBody s_law_cut) (defScope s_law_cut) .none kV doc pm an cdv ct), osl⟩) (c : PySem.W.codeIn K cdv "_law_cut" = true) (k : PySem.W.keepIn K (.ref f) = true) : DefAt K mg "_law_cut" s_law_cut ["story"] :=
  defAt_of X G (fun _ _ _ _ _ _ us hl => match us, hl with | [_], _ => rfl) a l c k
theorem da_law_refused {K : PySem.W.Frag} {h : Heap} {mg : Str → Option Value} (X : K.In h) (G : h.Ns mainGlobals mg) {f : Addr} {oc kV doc pm cdv ct : Value} {od an : Option Addr} {osl : Array (Option Value)}
    (a : PySem.W.nsIn K mainGlobals "_law_refused" = some (some (.ref f))) (l : K.lookup f = some ⟨oc, od, .func (PySem.W.fnOf "_law_refused" "_law_refused" (defArgs s_law_refused) (defBody s_law_refused) (defScope s_law_refused) .none kV doc pm an cdv ct), osl⟩) (c : PySem.W.codeIn K cdv "_law_refused" = true) (k : PySem.W.keepIn K (.ref f) = true) : DefAt K mg "_law_refused" s_law_refused ["tape", "figure", "story", "spots"] :=
  defAt_of X G (fun _ _ _ _ _ _ us hl => match us, hl with | [_, _, _, _], _ => rfl) a l c k
theorem da_law_bough {K : PySem.W.Frag} {h : Heap} {mg : Str → Option Value} (X : K.In h) (G : h.Ns mainGlobals mg) {f : Addr} {oc kV doc pm cdv ct : Value} {od an : Option Addr} {osl : Array (Option Value)}
    (a : PySem.W.nsIn K mainGlobals "_law_bough" = some (some (.ref f))) (l : K.lookup f = some ⟨oc, od, .func (PySem.W.fnOf "_law_bough" "_law_bough" (defArgs s_law_bough) (defBody s_law_bough) (defScope s_law_bough) .none kV doc pm an cdv ct), osl⟩) (c : PySem.W.codeIn K cdv "_law_bough" = true) (k : PySem.W.keepIn K (.ref f) = true) : DefAt K mg "_law_bough" s_law_bough ["tape", "spots", "story", "gone", "spot", "held"] :=
  defAt_of X G (fun _ _ _ _ _ _ us hl => match us, hl with | [_, _, _, _, _, _], _ => rfl) a l c k
theorem all_grow {P : Program} {w : World} {K : PySem.W.Frag} {mg : Str → Option Value} {base : Heap} {C f : Addr} {fd : FuncData} (F : Fun K "_grow" "ShapeTree._grow" s_ShapeTree_grow f fd) (b : Binds K fd ["self", "bough", "above", "side"] []) (T : Txt K mg) (TC : TCl K mg C f) :
    ∀ n, FnOk P w K mg base CX0 n f fd ["self", "bough", "above", "side"] (spGrow K C n)
  | 0 => by
    have no : ∀ vs H Q E, ¬ spGrow K C 0 vs H Q E := fun vs H Q E h => by
      obtain ⟨a, b, ab, dx, bs, T, u, p, fv, L, S, _, _, _, _, _, _, _, h, _⟩ := h
      exact absurd h (Nat.not_lt_zero _)
    exact ⟨fun vs H Q E h => absurd h (no vs H Q E), fun A outer s H args us vs Q E _ _ _ _ h => absurd h (no vs H Q E)⟩
  | n + 1 => ok_grow F b (all_grow F b T TC n) T TC
theorem law_ok {P : Program} {w : World} {K : PySem.W.Frag} {mg : Str → Option Value} {base : Heap} {C CS U fI fC fG fL ftI ftP ftD ftA ftS : Addr} {fdC fdG fdL fdtI fdtP fdtD fdtA fdtS : FuncData} (N : NUT K mg U fI) (T : Txt K mg) (mabs : mg "abs" = none) (mzip : mg "zip" = none) (msum : mg "sum" = none) (mmax : mg "max" = none) (TC : TCl K mg C fG) (SC : StCl K CS) (IS : IsS K mg CS) (mk : ∃ t, mg "MOST_CHILDREN" = some (.int 6 t))
    (mi : ∃ t, mg "MOST_INTEGERS" = some (.int 8 t)) (mr : ∃ t, mg "RANK_BOUND" = some (.int rankB t)) (mp : ∃ t, mg "PACKET_BOUND" = some (.int packB t))
    (FG : Fun K "_grow" "ShapeTree._grow" s_ShapeTree_grow fG fdG) (bG : Binds K fdG ["self", "bough", "above", "side"] []) (M : Mk K C fC) (gC : mg "ShapeTree" = some (.ref C)) (FC : Fun K "__init__" "ShapeTree.__init__" s_ShapeTree_init fC fdC) (bC : Binds K fdC ["self", "form"] [])
    (MS : Mk K CS ftI)
    (FtI : Fun K "__init__" "Standing.__init__" s_Standing_init ftI fdtI) (btI : Binds K fdtI ["self", "form"] []) (mtI : Meth K CS "__init__" ftI)
    (FtP : Fun K "push" "Standing.push" s_Standing_push ftP fdtP) (btP : Binds K fdtP ["self", "number", "queue", "ranks"] []) (mtP : Meth K CS "push" ftP)
    (FtD : Fun K "depart" "Standing.depart" s_Standing_depart ftD fdtD) (btD : Binds K fdtD ["self"] []) (mtD : Meth K CS "depart" ftD)
    (FtA : Fun K "all_lines" "Standing.all_lines" s_Standing_all_lines ftA fdtA) (btA : Binds K fdtA ["self"] []) (mtA : Meth K CS "all_lines" ftA)
    (FtS : Fun K "same_as" "Standing.same_as" s_Standing_same_as ftS fdtS) (btS : Binds K fdtS ["self", "other"] []) (mtS : Meth K CS "same_as" ftS)
    (D_is_integer : DefAt K mg "is_integer" s_is_integer ["thing"]) (D_is_number : DefAt K mg "is_number" s_is_number ["thing"]) (D_is_below : DefAt K mg "is_below" s_is_below ["thing", "bound"]) (D_need : DefAt K mg "need" s_need ["fits", "word"]) (D_is_shape : DefAt K mg "is_shape" s_is_shape ["thing"]) (D_has_forks_of : DefAt K mg "has_forks_of" s_has_forks_of ["thing", "least"]) (D_need_shape : DefAt K mg "need_shape" s_need_shape ["form", "word"]) (D_need_node : DefAt K mg "need_node" s_need_node ["tree", "node", "word"]) (D_need_queue : DefAt K mg "need_queue" s_need_queue ["tree", "queue", "word"]) (D_shape_tree : DefAt K mg "shape_tree" s_shape_tree ["form", "word"]) (D_is_rank : DefAt K mg "is_rank" s_is_rank ["thing"]) (D_fit_path : DefAt K mg "fit_path" s_fit_path ["tree", "queue", "thing"]) (D_is_way : DefAt K mg "is_way" s_is_way ["tree", "queue", "ranks"]) (D_are_events : DefAt K mg "are_events" s_are_events ["tree", "thing"]) (D_is_event : DefAt K mg "is_event" s_is_event ["tree", "thing"]) (D_place_behind : DefAt K mg "place_behind" s_place_behind ["line", "rank"]) (D_need_standing : DefAt K mg "need_standing" s_need_standing ["standing", "word"]) (D_need_absent : DefAt K mg "need_absent" s_need_absent ["standing", "number"]) (D_standing_with : DefAt K mg "standing_with" s_standing_with ["form", "lines"]) (D_bough_events : (DefAt K mg "bough_events" s_bough_events ["form", "events", "node"]) ∧ KwAt K mg "bough_events" ["form", "events", "node"] ["node", "events", "form"] revL) (D_play_events : DefAt K mg "play_events" s_play_events ["form", "events"]) (D_packet_gone : DefAt K mg "packet_gone" s_packet_gone ["standing"]) (D_bough_standing : DefAt K mg "bough_standing" s_bough_standing ["standing", "node"]) (D_law_tape : DefAt K mg "_law_tape" s_law_tape ["script"]) (D_law_pick : DefAt K mg "_law_pick" s_law_pick ["tape", "many"]) (D_law_same : DefAt K mg "_law_same" s_law_same ["told", "due"]) (D_law_shape : DefAt K mg "_law_shape" s_law_shape ["tape", "room", "deep", "spare"]) (D_law_spots : DefAt K mg "_law_spots" s_law_spots ["figure", "above", "slot", "depth", "spots"]) (D_law_rank : DefAt K mg "_law_rank" s_law_rank ["tape"]) (D_law_depth : DefAt K mg "_law_depth" s_law_depth ["spots", "queue"]) (D_law_story : DefAt K mg "_law_story" s_law_story ["tape", "spots"]) (D_law_play : DefAt K mg "_law_play" s_law_play ["spots", "story"]) (D_law_line : DefAt K mg "_law_line" s_law_line ["row"]) (D_law_due : DefAt K mg "_law_due" s_law_due ["spots", "story", "gone", "spot"]) (D_law_told : DefAt K mg "_law_told" s_law_told ["figure", "story", "spot", "named"]) (D_law_bad_story : DefAt K mg "_law_bad_story" s_law_bad_story ["tape", "spots", "story"]) (D_law_cut : DefAt K mg "_law_cut" s_law_cut ["story"]) (D_law_refused : DefAt K mg "_law_refused" s_law_refused ["tape", "figure", "story", "spots"]) (D_law_bough : DefAt K mg "_law_bough" s_law_bough ["tape", "spots", "story", "gone", "spot", "held"])
    (FL : Fun K "law" "law" s_law fL fdL) : FnOk P w K mg base CX0 29 fL fdL ["script"] (spLaw K) := by
  have GI := ok_integer (P := P) (w := w) (base := base) D_is_integer T
  have GNm := ok_number D_is_number GI
  have GB := ok_below D_is_below GNm
  have GN := ok_need (P := P) (w := w) (base := base) D_need N
  have GFo := ok_forks (P := P) (w := w) (base := base) D_has_forks_of T mk
  have GSh := ok_isShape D_is_shape GFo
  have GNS := ok_needShape (U := U) D_need_shape GSh GN
  have GG := all_grow (P := P) (w := w) (base := base) FG bG T TC 20
  have GIn := ok_init FC bG GG TC GNS
  have GQu := ok_need_queue (C := C) D_need_queue T TC GB GN
  have GST := ok_shapeTree D_shape_tree M gC bC GIn GNS
  have GR := ok_rank D_is_rank T mi mr GI
  have GFi := ok_fit (C := C) D_fit_path T TC GR
  have GBe := ok_behindL (P := P) (w := w) (base := base) D_place_behind T
  have GAb := ok_absent D_need_absent SC mp GB GN
  have FPu := ok_push FtP T mzip SC TC GAb GQu GN GFi GBe
  have FDe := ok_depart (P := P) (w := w) (base := base) FtD T SC TC
  have FAl := ok_allL (P := P) (w := w) (C := C) (mg := mg) (base := base) FtA T SC
  have GNo := ok_need_node (C := C) D_need_node T TC GB GN
  have GNSt := ok_needSt D_need_standing T SC IS GN
  have GWy := ok_way D_is_way T TC GB GFi
  have GEv := ok_event D_is_event T mp GB GWy
  have GEs := ok_events D_are_events T GEv
  have FMa := ok_made FtI SC TC GST
  have GWg := ok_with D_standing_with T T.enumerate T.list SC TC MS IS.mg btI FMa
  have FSa := ok_sameAs FtS T SC TC GNSt
  have MAl : MQ P w K mg base CS 1 "all_lines" ["self"] (spAllL K C CS) := ⟨_, _, mtA, FAl, btA⟩
  have MDe : MQ P w K mg base CS 5 "depart" ["self"] (spDepart K C CS) := ⟨_, _, mtD, FDe, btD⟩
  have MPu : MQ P w K mg base CS 5 "push" ["self", "number", "queue", "ranks"] (spPushQ K C CS) := ⟨_, _, mtP, pushQ FPu, btP⟩
  have MSq : MQ P w K mg base CS 5 "same_as" ["self", "other"] (spSameQ K C CS) := ⟨_, _, mtS, sameQ FSa, btS⟩
  have GGo := ok_gone D_packet_gone SC MDe
  have GPl := playQ (ok_playM D_play_events T SC MS IS.mg btI (madeQ FMa) GST GN GEs GGo MPu)
  have GBo := boughQ (ok_bough D_bough_standing SC TC GNSt GNo GWg)
  have GBE := ok_be D_bough_events.1 T SC TC MS IS.mg btI (madeQ FMa) GST GN GEs GNo MPu MDe
  have GTa := ok_tape (P := P) (w := w) (base := base) D_law_tape T mabs
  have GPi := ok_pick (P := P) (w := w) (base := base) D_law_pick T
  have GSa := ok_same (P := P) (w := w) (base := base) D_law_same T 20
  have GSp := ok_shape D_law_shape T GPi 13
  have GSo := ok_spots (P := P) (w := w) (base := base) D_law_spots T 20
  have GRk := ok_mkrank D_law_rank T GPi
  have GDe := ok_depth (P := P) (w := w) (base := base) D_law_depth T
  have GSt := ok_story D_law_story T GPi GRk GDe
  have GPy := ok_playB (P := P) (w := w) (base := base) D_law_play T mmax
  have GLi := ok_bagline (P := P) (w := w) (base := base) D_law_line T
  have GDu := ok_due (P := P) (w := w) (base := base) D_law_due T
  have GTo := ok_told D_law_told T N GBE D_bough_events.2
  have GBs := ok_badst D_law_bad_story T GPi GDe
  have GCu := ok_cut (P := P) (w := w) (base := base) D_law_cut T msum
  have GRf := ok_refused D_law_refused T GPi GSa GTo GBs
  have GBg := ok_lawbough D_law_bough T SC GPi GSa GTo GDu GLi GPl GBo MAl MSq
  exact ok_law FL T mmax GTa GPi GSa GSp GSo GSt GCu GPy GPl GBg GRf
end K65
set_option Elab.async false
set_option linter.all false
set_option maxRecDepth 100000
namespace K65
open PySem PySem.Spec PyProof.Rows L2 Dt
theorem te_of {K : PySem.W.Frag} {U : Addr} (b : PySem.W.subIn K (.ref U) (.type "BaseException") = some true) (i : PySem.W.isClsIn K U = true) (t : PySem.W.typeIn K (.ref U) = some (.type "type")) (s : PySem.W.subIn K (.ref U) (.ref U) = some true) : PySem.W.exmOne K (.ref U) (.ref U) = some true := by
  unfold PySem.W.isClsIn at i
  unfold PySem.W.exmOne PySem.W.kitCls
  rw [b]
  simp [i, t, s]
theorem ex_of {K : PySem.W.Frag} {U B : Addr} (b : PySem.W.subIn K (.ref B) (.type "BaseException") = some true) (i : PySem.W.isClsIn K B = true) (t : PySem.W.typeIn K (.ref B) = some (.type "type")) (s : PySem.W.subIn K (.ref U) (.ref B) = some true) : PySem.W.exmOne K (.ref U) (.ref B) = some true := by
  unfold PySem.W.isClsIn at i
  unfold PySem.W.exmOne PySem.W.kitCls
  rw [b]
  simp [i, t, s]
theorem kit_of {K : PySem.W.Frag} {U B : Addr} {b : Bool} (ne : U ≠ B ∨ b = true) (i : PySem.W.isClsIn K B = true) (t : PySem.W.typeIn K (.ref B) = some (.type "type")) (s : PySem.W.subIn K (.ref U) (.ref B) = some b) : PySem.W.kitOne K (.ref U) (.ref B) = some b := by
  unfold PySem.W.isClsIn at i
  unfold PySem.W.kitOne PySem.W.kitCls
  by_cases e : U = B
  · subst e
    rcases ne with ne | ne
    · exact absurd rfl ne
    · rw [ne]
      simp
  · have : (Value.ref U == Value.ref B) = false := by
      simpa using e
    rw [this]
    simp [i, t, s]
theorem kit_ofT {K : PySem.W.Frag} {B : Addr} {t : String} {b : Bool} (i : PySem.W.isClsIn K B = true) (ty : PySem.W.typeIn K (.ref B) = some (.type "type")) (s : PySem.W.subIn K (.type t) (.ref B) = some b) : PySem.W.kitOne K (.type t) (.ref B) = some b := by
  unfold PySem.W.isClsIn at i
  unfold PySem.W.kitOne PySem.W.kitCls
  have : (Value.type t == Value.ref B) = false := by simp
  rw [this]
  simp [i, ty, s]
theorem all_mk {l : PySem.W.OpenLaw} {w : World} {K : PySem.W.Frag} {h : Heap} {mg : Str → Option Value} {fa C CS U fI fC fG ftI ftP ftD ftA ftS : Addr} (X : K.In h) (G : h.Ns mainGlobals mg) (hfa : mg "law" = some (.ref fa))
    {ocI kVI docI pmI cdI ctI ocC kVC docC pmC cdC ctC ocG kVG docG pmG cdG ctG ocL kVL docL pmL cdL ctL : Value} {odI anI odC anC odG anG odL anL : Option Addr} {slI slC slG slL : Array (Option Value)}
    {nm q : Str} {NN : Addr} {bs bm : List Value} {sn : List Str} {sub : List Value} {ab : Bool} {col : Option Bool} {dd : Option Addr} {x0 x1 x2 x3 x5 : Option Value} {tM tI8 tR tP : Tok} {fL : Addr} {octI kVtI doctI pmtI cdtI cttI : Value} {odtI antI : Option Addr} {sltI : Array (Option Value)} {octP kVtP doctP pmtP cdtP cttP : Value} {odtP antP : Option Addr} {sltP : Array (Option Value)} {octD kVtD doctD pmtD cdtD cttD : Value} {odtD antD : Option Addr} {sltD : Array (Option Value)} {octA kVtA doctA pmtA cdtA cttA : Value} {odtA antA : Option Addr} {sltA : Array (Option Value)} {octS kVtS doctS pmtS cdtS cttS : Value} {odtS antS : Option Addr} {sltS : Array (Option Value)}
    (aU : PySem.W.nsIn K mainGlobals "NotUsable" = some (some (.ref U)))
    (xL : K.lookup U = some (excClassObj nm q U NN bs bm true sn sub ab col dd x0 x1 x2 x3 x5 "ValueError.__new__")) (xm : PySem.HandSPX.refsVE bm = true)
    (saU : PySem.W.findIn K (.ref U) "__setattr__" = some (some (.builtin "object.__setattr__"))) (exU : PySem.W.subIn K (.ref U) (.type "BaseException") = some true) (tyU : PySem.W.typeIn K (.ref U) = some (.type "type")) (kU : PySem.W.keepIn K (.ref U) = true)
    (xga : PySem.W.findIn K (.ref U) "__getattribute__" = some (some (.builtin "BaseException.__getattribute__"))) (xgg : PySem.W.findIn K (.ref U) "__getattr__" = some none) (xhd : PySem.W.hasDictIn K U = true) (nw : PySem.W.findIn K (.ref U) "word" = some none) (na : PySem.W.findIn K (.ref U) "at" = some none)
    (iI : PySem.W.findIn K (.ref U) "__init__" = some (some (.ref fI))) (tI : PySem.W.typeIn K (.ref fI) = some (.type "function")) (tc : PySem.W.isClsIn K U = true) (ts : PySem.W.subIn K (.ref U) (.ref U) = some true)
    (lI : K.lookup fI = some ⟨ocI, odI, .func (PySem.W.fnOf "__init__" "NotUsable.__init__" (defArgs s_NotUsable_init) (defBody s_NotUsable_init) (defScope s_NotUsable_init) .none kVI docI pmI anI cdI ctI), slI⟩) (cI : PySem.W.codeIn K cdI "NotUsable.__init__" = true) (kI : PySem.W.keepIn K (.ref fI) = true)
    (aC : PySem.W.nsIn K mainGlobals "ShapeTree" = some (some (.ref C))) (mM : PySem.W.nsIn K mainGlobals "MOST_CHILDREN" = some (some (.int 6 tM))) (mI : PySem.W.nsIn K mainGlobals "MOST_INTEGERS" = some (some (.int 8 tI8))) (mR : PySem.W.nsIn K mainGlobals "RANK_BOUND" = some (some (.int rankB tR))) (mP : PySem.W.nsIn K mainGlobals "PACKET_BOUND" = some (some (.int packB tP)))
    (ha : PySem.W.findIn K (.ref U) "__class__" = some (some (.builtin "object.__class__"))) (hn : PySem.W.specialIn K (.builtin "object.__class__") "__get__" = some (some (.builtin "getset_descriptor.__get__"))) (ht : PySem.W.takesIn K (.builtin "object.__class__") = some true) (hm : PySem.W.mroIn K U (.type "object") = some true)
    (pg : PySem.W.plainGet K C Str.empty = true) (hd : PySem.W.hasDictIn K C = true) (po : PySem.W.plainOver K C = true) (sa : PySem.W.findIn K (.ref C) "__setattr__" = some (some (.builtin "object.__setattr__"))) (mk : PySem.W.makesIn K C = true) (kC : PySem.W.keepIn K (.ref C) = true)
    (iC : PySem.W.findIn K (.ref C) "__init__" = some (some (.ref fC))) (fC1 : PySem.W.isFn K (.ref fC) = true) (lC : K.lookup fC = some ⟨ocC, odC, .func (PySem.W.fnOf "__init__" "ShapeTree.__init__" (defArgs s_ShapeTree_init) (defBody s_ShapeTree_init) (defScope s_ShapeTree_init) .none kVC docC pmC anC cdC ctC), slC⟩) (cC : PySem.W.codeIn K cdC "ShapeTree.__init__" = true) (kC1 : PySem.W.keepIn K (.ref fC) = true)
    (iG : PySem.W.findIn K (.ref C) "_grow" = some (some (.ref fG))) (fG1 : PySem.W.isFn K (.ref fG) = true) (lG : K.lookup fG = some ⟨ocG, odG, .func (PySem.W.fnOf "_grow" "ShapeTree._grow" (defArgs s_ShapeTree_grow) (defBody s_ShapeTree_grow) (defScope s_ShapeTree_grow) .none kVG docG pmG anG cdG ctG), slG⟩) (cG : PySem.W.codeIn K cdG "ShapeTree._grow" = true) (kG : PySem.W.keepIn K (.ref fG) = true)
    (aL : PySem.W.nsIn K mainGlobals "law" = some (some (.ref fL))) (lL : K.lookup fL = some ⟨ocL, odL, .func (PySem.W.fnOf "law" "law" (defArgs s_law) (defBody s_law) (defScope s_law) .none kVL docL pmL anL cdL ctL), slL⟩) (cL : PySem.W.codeIn K cdL "law" = true) (kL : PySem.W.keepIn K (.ref fL) = true)
    (aT : PySem.W.nsIn K mainGlobals "Standing" = some (some (.ref CS))) (pgT : PySem.W.plainGet K CS Str.empty = true) (hdT : PySem.W.hasDictIn K CS = true) (poT : PySem.W.plainOver K CS = true) (saT : PySem.W.findIn K (.ref CS) "__setattr__" = some (some (.builtin "object.__setattr__"))) (mkT : PySem.W.makesIn K CS = true) (kCT : PySem.W.keepIn K (.ref CS) = true)
    (isT : PySem.W.isClsIn K CS = true) (tyT : PySem.W.typeIn K (.ref CS) = some (.type "type")) (s1T : PySem.W.subIn K (.type "int") (.ref CS) = some false) (s2T : PySem.W.subIn K (.type "bool") (.ref CS) = some false) (s3T : PySem.W.subIn K (.type "NoneType") (.ref CS) = some false) (s4T : PySem.W.subIn K (.type "str") (.ref CS) = some false) (s5T : PySem.W.subIn K (.type "tuple") (.ref CS) = some false) (s6T : PySem.W.subIn K (.type "list") (.ref CS) = some false)
    (haT : PySem.W.findIn K (.ref CS) "__class__" = some (some (.builtin "object.__class__"))) (hmT : PySem.W.mroIn K CS (.type "object") = some true) (nTt : PySem.W.findIn K (.ref CS) "tree" = some none) (nTl : PySem.W.findIn K (.ref CS) "lines" = some none) (nTs : PySem.W.findIn K (.ref CS) "seats" = some none)
    (itI : PySem.W.findIn K (.ref CS) "__init__" = some (some (.ref ftI))) (gtI : PySem.W.isFn K (.ref ftI) = true) (ltI : K.lookup ftI = some ⟨octI, odtI, .func (PySem.W.fnOf "__init__" "Standing.__init__" (defArgs s_Standing_init) (defBody s_Standing_init) (defScope s_Standing_init) .none kVtI doctI pmtI antI cdtI cttI), sltI⟩) (ctI : PySem.W.codeIn K cdtI "Standing.__init__" = true) (ktI : PySem.W.keepIn K (.ref ftI) = true)
    (itP : PySem.W.findIn K (.ref CS) "push" = some (some (.ref ftP))) (gtP : PySem.W.isFn K (.ref ftP) = true) (ltP : K.lookup ftP = some ⟨octP, odtP, .func (PySem.W.fnOf "push" "Standing.push" (defArgs s_Standing_push) (defBody s_Standing_push) (defScope s_Standing_push) .none kVtP doctP pmtP antP cdtP cttP), sltP⟩) (ctP : PySem.W.codeIn K cdtP "Standing.push" = true) (ktP : PySem.W.keepIn K (.ref ftP) = true)
    (itD : PySem.W.findIn K (.ref CS) "depart" = some (some (.ref ftD))) (gtD : PySem.W.isFn K (.ref ftD) = true) (ltD : K.lookup ftD = some ⟨octD, odtD, .func (PySem.W.fnOf "depart" "Standing.depart" (defArgs s_Standing_depart) (defBody s_Standing_depart) (defScope s_Standing_depart) .none kVtD doctD pmtD antD cdtD cttD), sltD⟩) (ctD : PySem.W.codeIn K cdtD "Standing.depart" = true) (ktD : PySem.W.keepIn K (.ref ftD) = true)
    (itA : PySem.W.findIn K (.ref CS) "all_lines" = some (some (.ref ftA))) (gtA : PySem.W.isFn K (.ref ftA) = true) (ltA : K.lookup ftA = some ⟨octA, odtA, .func (PySem.W.fnOf "all_lines" "Standing.all_lines" (defArgs s_Standing_all_lines) (defBody s_Standing_all_lines) (defScope s_Standing_all_lines) .none kVtA doctA pmtA antA cdtA cttA), sltA⟩) (ctA : PySem.W.codeIn K cdtA "Standing.all_lines" = true) (ktA : PySem.W.keepIn K (.ref ftA) = true)
    (itS : PySem.W.findIn K (.ref CS) "same_as" = some (some (.ref ftS))) (gtS : PySem.W.isFn K (.ref ftS) = true) (ltS : K.lookup ftS = some ⟨octS, odtS, .func (PySem.W.fnOf "same_as" "Standing.same_as" (defArgs s_Standing_same_as) (defBody s_Standing_same_as) (defScope s_Standing_same_as) .none kVtS doctS pmtS antS cdtS cttS), sltS⟩) (ctS : PySem.W.codeIn K cdtS "Standing.same_as" = true) (ktS : PySem.W.keepIn K (.ref ftS) = true)
    (n0 : PySem.W.findIn K (.ref C) "form" = some none) (n1 : PySem.W.findIn K (.ref C) "boughs" = some none) (n2 : PySem.W.findIn K (.ref C) "parents" = some none) (n3 : PySem.W.findIn K (.ref C) "kids" = some none) (n4 : PySem.W.findIn K (.ref C) "depths" = some none) (n5 : PySem.W.findIn K (.ref C) "sides" = some none) (n6 : PySem.W.findIn K (.ref C) "lows" = some none) (n7 : PySem.W.findIn K (.ref C) "highs" = some none) (n8 : PySem.W.findIn K (.ref C) "ends" = some none) (n9 : PySem.W.findIn K (.ref C) "leaves" = some none) (n10 : PySem.W.findIn K (.ref C) "paths" = some none)
    (z0 : PySem.W.nsIn K mainGlobals "isinstance" = some none) (z1 : PySem.W.nsIn K mainGlobals "int" = some none) (z2 : PySem.W.nsIn K mainGlobals "bool" = some none) (z3 : PySem.W.nsIn K mainGlobals "tuple" = some none) (z4 : PySem.W.nsIn K mainGlobals "str" = some none) (z5 : PySem.W.nsIn K mainGlobals "len" = some none) (z6 : PySem.W.nsIn K mainGlobals "range" = some none) (z7 : PySem.W.nsIn K mainGlobals "enumerate" = some none) (z8 : PySem.W.nsIn K mainGlobals "sorted" = some none) (z9 : PySem.W.nsIn K mainGlobals "all" = some none) (z10 : PySem.W.nsIn K mainGlobals "min" = some none) (z11 : PySem.W.nsIn K mainGlobals "list" = some none) (z12 : PySem.W.nsIn K mainGlobals "abs" = some none) (z13 : PySem.W.nsIn K mainGlobals "zip" = some none) (z14 : PySem.W.nsIn K mainGlobals "sum" = some none) (z15 : PySem.W.nsIn K mainGlobals "max" = some none)
    (D_is_integer : DefAt K mg "is_integer" s_is_integer ["thing"]) (D_is_number : DefAt K mg "is_number" s_is_number ["thing"]) (D_is_below : DefAt K mg "is_below" s_is_below ["thing", "bound"]) (D_need : DefAt K mg "need" s_need ["fits", "word"]) (D_is_shape : DefAt K mg "is_shape" s_is_shape ["thing"]) (D_has_forks_of : DefAt K mg "has_forks_of" s_has_forks_of ["thing", "least"]) (D_need_shape : DefAt K mg "need_shape" s_need_shape ["form", "word"]) (D_need_node : DefAt K mg "need_node" s_need_node ["tree", "node", "word"]) (D_need_queue : DefAt K mg "need_queue" s_need_queue ["tree", "queue", "word"]) (D_shape_tree : DefAt K mg "shape_tree" s_shape_tree ["form", "word"]) (D_is_rank : DefAt K mg "is_rank" s_is_rank ["thing"]) (D_fit_path : DefAt K mg "fit_path" s_fit_path ["tree", "queue", "thing"]) (D_is_way : DefAt K mg "is_way" s_is_way ["tree", "queue", "ranks"]) (D_are_events : DefAt K mg "are_events" s_are_events ["tree", "thing"]) (D_is_event : DefAt K mg "is_event" s_is_event ["tree", "thing"]) (D_place_behind : DefAt K mg "place_behind" s_place_behind ["line", "rank"]) (D_need_standing : DefAt K mg "need_standing" s_need_standing ["standing", "word"]) (D_need_absent : DefAt K mg "need_absent" s_need_absent ["standing", "number"]) (D_standing_with : DefAt K mg "standing_with" s_standing_with ["form", "lines"]) (D_bough_events : (DefAt K mg "bough_events" s_bough_events ["form", "events", "node"]) ∧ KwAt K mg "bough_events" ["form", "events", "node"] ["node", "events", "form"] revL) (D_play_events : DefAt K mg "play_events" s_play_events ["form", "events"]) (D_packet_gone : DefAt K mg "packet_gone" s_packet_gone ["standing"]) (D_bough_standing : DefAt K mg "bough_standing" s_bough_standing ["standing", "node"]) (D_law_tape : DefAt K mg "_law_tape" s_law_tape ["script"]) (D_law_pick : DefAt K mg "_law_pick" s_law_pick ["tape", "many"]) (D_law_same : DefAt K mg "_law_same" s_law_same ["told", "due"]) (D_law_shape : DefAt K mg "_law_shape" s_law_shape ["tape", "room", "deep", "spare"]) (D_law_spots : DefAt K mg "_law_spots" s_law_spots ["figure", "above", "slot", "depth", "spots"]) (D_law_rank : DefAt K mg "_law_rank" s_law_rank ["tape"]) (D_law_depth : DefAt K mg "_law_depth" s_law_depth ["spots", "queue"]) (D_law_story : DefAt K mg "_law_story" s_law_story ["tape", "spots"]) (D_law_play : DefAt K mg "_law_play" s_law_play ["spots", "story"]) (D_law_line : DefAt K mg "_law_line" s_law_line ["row"]) (D_law_due : DefAt K mg "_law_due" s_law_due ["spots", "story", "gone", "spot"]) (D_law_told : DefAt K mg "_law_told" s_law_told ["figure", "story", "spot", "named"]) (D_law_bad_story : DefAt K mg "_law_bad_story" s_law_bad_story ["tape", "spots", "story"]) (D_law_cut : DefAt K mg "_law_cut" s_law_cut ["story"]) (D_law_refused : DefAt K mg "_law_refused" s_law_refused ["tape", "figure", "story", "spots"]) (D_law_bough : DefAt K mg "_law_bough" s_law_bough ["tape", "spots", "story", "gone", "spot", "held"]) :
    ∃ fd : FuncData, (∀ (s : Shared) (v : Value), BindsTo s fd ⟨[v], []⟩ [("script", v)]) ∧ ∀ base : Heap, K.In base → base.Ns mainGlobals mg → FnOk l.prog w K mg base CX0 29 fa fd ["script"] (spLaw K) := by
  have e := hfa.symm.trans (PySem.W.mg_of X G aL)
  cases e
  have FI := fun_mk (st := s_NotUsable_init) lI cI kI
  have FC := fun_mk (st := s_ShapeTree_init) lC cC kC1
  have FG := fun_mk (st := s_ShapeTree_grow) lG cG kG
  have FL := fun_mk (st := s_law) lL cL kL
  have bI := FI.binds (ps := ["self", "word", "at"]) fun _ _ _ _ _ _ us hl => match us, hl with | [_, _, _], _ => rfl
  have bC := FC.binds (ps := ["self", "form"]) fun _ _ _ _ _ _ us hl => match us, hl with | [_, _], _ => rfl
  have bG := FG.binds (ps := ["self", "bough", "above", "side"]) fun _ _ _ _ _ _ us hl => match us, hl with | [_, _, _, _], _ => rfl
  have N : NUT K mg U fI := ⟨PySem.W.mg_of X G aU, ⟨⟨nm, q, NN, bs, bm, sn, sub, ab, col, dd, x0, x1, x2, x3, x5, xL, xm⟩, saU, exU, tyU, kU⟩, ⟨xga, xgg, exU, xhd⟩, nw, na, iI, tI, te_of exU tc tyU ts, _, FI, bI⟩
  have T : Txt K mg := ⟨PySem.W.mg_none_of X G z0, PySem.W.mg_none_of X G z1, PySem.W.mg_none_of X G z2, PySem.W.mg_none_of X G z3, PySem.W.mg_none_of X G z4, PySem.W.mg_none_of X G z5, PySem.W.mg_none_of X G z6, PySem.W.mg_none_of X G z7, PySem.W.mg_none_of X G z8, PySem.W.mg_none_of X G z9, PySem.W.mg_none_of X G z10, PySem.W.mg_none_of X G z11⟩
  have TC : TCl K mg C fG := ⟨⟨pg, hd, po, sa⟩, ⟨iG, fG1, kG⟩, n0, n1, n2, n3, n4, n5, n6, n7, n8, n9, n10⟩
  have FtI := fun_mk (st := s_Standing_init) ltI ctI ktI
  have btI := FtI.binds (ps := ["self", "form"]) fun _ _ _ _ _ _ us hl => match us, hl with | [_, _], _ => rfl
  have FtP := fun_mk (st := s_Standing_push) ltP ctP ktP
  have btP := FtP.binds (ps := ["self", "number", "queue", "ranks"]) fun _ _ _ _ _ _ us hl => match us, hl with | [_, _, _, _], _ => rfl
  have FtD := fun_mk (st := s_Standing_depart) ltD ctD ktD
  have btD := FtD.binds (ps := ["self"]) fun _ _ _ _ _ _ us hl => match us, hl with | [_], _ => rfl
  have FtA := fun_mk (st := s_Standing_all_lines) ltA ctA ktA
  have btA := FtA.binds (ps := ["self"]) fun _ _ _ _ _ _ us hl => match us, hl with | [_], _ => rfl
  have FtS := fun_mk (st := s_Standing_same_as) ltS ctS ktS
  have btS := FtS.binds (ps := ["self", "other"]) fun _ _ _ _ _ _ us hl => match us, hl with | [_, _], _ => rfl
  have SC : StCl K CS := ⟨⟨pgT, hdT, poT, saT⟩, nTt, nTl, nTs⟩
  have IS : IsS K mg CS := ⟨PySem.W.mg_of X G aT, fun t h => by
    rcases h with rfl | rfl | rfl | rfl | rfl | rfl
    · exact kit_ofT isT tyT s1T
    · exact kit_ofT isT tyT s2T
    · exact kit_ofT isT tyT s3T
    · exact kit_ofT isT tyT s4T
    · exact kit_ofT isT tyT s5T
    · exact kit_ofT isT tyT s6T, haT, hn, ht, hmT⟩
  refine ⟨PySem.W.fnOf "law" "law" (defArgs s_law) (defBody s_law) (defScope s_law) .none kVL docL pmL anL cdL ctL, fun s v => .of_eq rfl, fun base _ _ => ?_⟩
  exact law_ok N T (PySem.W.mg_none_of X G z12) (PySem.W.mg_none_of X G z13) (PySem.W.mg_none_of X G z14) (PySem.W.mg_none_of X G z15) TC SC IS ⟨tM, PySem.W.mg_of X G mM⟩ ⟨tI8, PySem.W.mg_of X G mI⟩ ⟨tR, PySem.W.mg_of X G mR⟩ ⟨tP, PySem.W.mg_of X G mP⟩ FG bG ⟨mk, iC, fC1, kC⟩ (PySem.W.mg_of X G aC) FC bC ⟨mkT, itI, gtI, kCT⟩ FtI btI ⟨itI, gtI, ktI⟩ FtP btP ⟨itP, gtP, ktP⟩ FtD btD ⟨itD, gtD, ktD⟩ FtA btA ⟨itA, gtA, ktA⟩ FtS btS ⟨itS, gtS, ktS⟩ D_is_integer D_is_number D_is_below D_need D_is_shape D_has_forks_of D_need_shape D_need_node D_need_queue D_shape_tree D_is_rank D_fit_path D_is_way D_are_events D_is_event D_place_behind D_need_standing D_need_absent D_standing_with D_bough_events D_play_events D_packet_gone D_bough_standing D_law_tape D_law_pick D_law_same D_law_shape D_law_spots D_law_rank D_law_depth D_law_story D_law_play D_law_line D_law_due D_law_told D_law_bad_story D_law_cut D_law_refused D_law_bough FL
end K65
set_option Elab.async false
set_option linter.all false
set_option maxRecDepth 100000
open PySem PySem.W PyProof.Rows
set_option maxRecDepth 100000 in
set_option maxHeartbeats 0 in
theorem PySem.Challenge.cw_nextbough_k65_whole_bough_events_holds : PySem.Challenge.rw_nextbough_k65_whole_bough_events.Holds := by
  w_on; o_law; k_head; (case hw => w_witness2)
  k_fill
  refine L2.walk_of (n := 63) (k := 29) (x := "script") (CX := fun _ => L2.CX0) (sp := fun w => K65.spLaw _) rfl (by decide) rfl ⟨rfl, by decide, by decide⟩ (fun w h Y => PySem.W.kIn_of Y) ?F (fun _ _ a ns hl _ hS => ⟨a, ns, rfl, hS, hl, fun _ => rfl⟩) fun _ _ _ _ _ z => z
  case F =>
    intro w mg fa h KX G hmg
    refine' K65.all_mk KX G hmg ?aU ?xL ?xm ?saU ?exU ?tyU ?kU ?xga ?xgg ?xhd ?nw ?na ?iI ?tI ?tc ?ts ?lI ?cI ?kI ?aC ?mM ?mI ?mR ?mP ?ha ?hn ?ht ?hm ?pg ?hd ?po ?sa ?mk ?kC ?iC ?fC1 ?lC ?cC ?kC1 ?iG ?fG1 ?lG ?cG ?kG ?aL ?lL ?cL ?kL ?aT ?pgT ?hdT ?poT ?saT ?mkT ?kCT ?isT ?tyT ?s1T ?s2T ?s3T ?s4T ?s5T ?s6T ?haT ?hmT ?nTt ?nTl ?nTs ?itI ?gtI ?ltI ?ctI ?ktI ?itP ?gtP ?ltP ?ctP ?ktP ?itD ?gtD ?ltD ?ctD ?ktD ?itA ?gtA ?ltA ?ctA ?ktA ?itS ?gtS ?ltS ?ctS ?ktS ?n0 ?n1 ?n2 ?n3 ?n4 ?n5 ?n6 ?n7 ?n8 ?n9 ?n10 ?z0 ?z1 ?z2 ?z3 ?z4 ?z5 ?z6 ?z7 ?z8 ?z9 ?z10 ?z11 ?z12 ?z13 ?z14 ?z15 ?Dis_integer ?Dis_number ?Dis_below ?Dneed ?Dis_shape ?Dhas_forks_of ?Dneed_shape ?Dneed_node ?Dneed_queue ?Dshape_tree ?Dis_rank ?Dfit_path ?Dis_way ?Dare_events ?Dis_event ?Dplace_behind ?Dneed_standing ?Dneed_absent ?Dstanding_with ?Dbough_events ?Dplay_events ?Dpacket_gone ?Dbough_standing ?Dlaw_tape ?Dlaw_pick ?Dlaw_same ?Dlaw_shape ?Dlaw_spots ?Dlaw_rank ?Dlaw_depth ?Dlaw_story ?Dlaw_play ?Dlaw_line ?Dlaw_due ?Dlaw_told ?Dlaw_bad_story ?Dlaw_cut ?Dlaw_refused ?Dlaw_bough
    (case aU => k_is)
    (case xL => k_is)
    (case xm => rfl)
    (case saU => k_is)
    (case exU => k_is)
    (case tyU => k_is)
    (case kU => k_is)
    (case xga => k_is)
    (case xgg => k_is)
    (case xhd => k_is)
    (case nw => k_is)
    (case na => k_is)
    (case iI => k_is)
    (case tI => k_is)
    (case tc => k_is)
    (case ts => k_is)
    (case lI => k_is)
    (case cI => k_is)
    (case kI => k_is)
    (case aC => k_is)
    (case mM => k_is)
    (case mI => k_is)
    (case mR => k_is)
    (case mP => k_is)
    (case ha => k_is)
    (case hn => k_is)
    (case ht => k_is)
    (case hm => k_is)
    (case pg => k_is)
    (case hd => k_is)
    (case po => k_is)
    (case sa => k_is)
    (case mk => k_is)
    (case kC => k_is)
    (case iC => k_is)
    (case fC1 => k_is)
    (case lC => k_is)
    (case cC => k_is)
    (case kC1 => k_is)
    (case iG => k_is)
    (case fG1 => k_is)
    (case lG => k_is)
    (case cG => k_is)
    (case kG => k_is)
    (case aL => k_is)
    (case lL => k_is)
    (case cL => k_is)
    (case kL => k_is)
    (case aT => k_is)
    (case pgT => k_is)
    (case hdT => k_is)
    (case poT => k_is)
    (case saT => k_is)
    (case mkT => k_is)
    (case kCT => k_is)
    (case isT => k_is)
    (case tyT => k_is)
    (case s1T => k_is)
    (case s2T => k_is)
    (case s3T => k_is)
    (case s4T => k_is)
    (case s5T => k_is)
    (case s6T => k_is)
    (case haT => k_is)
    (case hmT => k_is)
    (case nTt => k_is)
    (case nTl => k_is)
    (case nTs => k_is)
    (case itI => k_is)
    (case gtI => k_is)
    (case ltI => k_is)
    (case ctI => k_is)
    (case ktI => k_is)
    (case itP => k_is)
    (case gtP => k_is)
    (case ltP => k_is)
    (case ctP => k_is)
    (case ktP => k_is)
    (case itD => k_is)
    (case gtD => k_is)
    (case ltD => k_is)
    (case ctD => k_is)
    (case ktD => k_is)
    (case itA => k_is)
    (case gtA => k_is)
    (case ltA => k_is)
    (case ctA => k_is)
    (case ktA => k_is)
    (case itS => k_is)
    (case gtS => k_is)
    (case ltS => k_is)
    (case ctS => k_is)
    (case ktS => k_is)
    (case n0 => k_is)
    (case n1 => k_is)
    (case n2 => k_is)
    (case n3 => k_is)
    (case n4 => k_is)
    (case n5 => k_is)
    (case n6 => k_is)
    (case n7 => k_is)
    (case n8 => k_is)
    (case n9 => k_is)
    (case n10 => k_is)
    (case z0 => k_is)
    (case z1 => k_is)
    (case z2 => k_is)
    (case z3 => k_is)
    (case z4 => k_is)
    (case z5 => k_is)
    (case z6 => k_is)
    (case z7 => k_is)
    (case z8 => k_is)
    (case z9 => k_is)
    (case z10 => k_is)
    (case z11 => k_is)
    (case z12 => k_is)
    (case z13 => k_is)
    (case z14 => k_is)
    (case z15 => k_is)
    (case Dis_integer => refine' K65.da_is_integer KX G ?a ?l ?c ?k; (case a => k_is); (case l => k_is); (case c => k_is); (case k => k_is))
    (case Dis_number => refine' K65.da_is_number KX G ?a ?l ?c ?k; (case a => k_is); (case l => k_is); (case c => k_is); (case k => k_is))
    (case Dis_below => refine' K65.da_is_below KX G ?a ?l ?c ?k; (case a => k_is); (case l => k_is); (case c => k_is); (case k => k_is))
    (case Dneed => refine' K65.da_need KX G ?a ?l ?c ?k; (case a => k_is); (case l => k_is); (case c => k_is); (case k => k_is))
    (case Dis_shape => refine' K65.da_is_shape KX G ?a ?l ?c ?k; (case a => k_is); (case l => k_is); (case c => k_is); (case k => k_is))
    (case Dhas_forks_of => refine' K65.da_has_forks_of KX G ?a ?l ?c ?k; (case a => k_is); (case l => k_is); (case c => k_is); (case k => k_is))
    (case Dneed_shape => refine' K65.da_need_shape KX G ?a ?l ?c ?k; (case a => k_is); (case l => k_is); (case c => k_is); (case k => k_is))
    (case Dneed_node => refine' K65.da_need_node KX G ?a ?l ?c ?k; (case a => k_is); (case l => k_is); (case c => k_is); (case k => k_is))
    (case Dneed_queue => refine' K65.da_need_queue KX G ?a ?l ?c ?k; (case a => k_is); (case l => k_is); (case c => k_is); (case k => k_is))
    (case Dshape_tree => refine' K65.da_shape_tree KX G ?a ?l ?c ?k; (case a => k_is); (case l => k_is); (case c => k_is); (case k => k_is))
    (case Dis_rank => refine' K65.da_is_rank KX G ?a ?l ?c ?k; (case a => k_is); (case l => k_is); (case c => k_is); (case k => k_is))
    (case Dfit_path => refine' K65.da_fit_path KX G ?a ?l ?c ?k; (case a => k_is); (case l => k_is); (case c => k_is); (case k => k_is))
    (case Dis_way => refine' K65.da_is_way KX G ?a ?l ?c ?k; (case a => k_is); (case l => k_is); (case c => k_is); (case k => k_is))
    (case Dare_events => refine' K65.da_are_events KX G ?a ?l ?c ?k; (case a => k_is); (case l => k_is); (case c => k_is); (case k => k_is))
    (case Dis_event => refine' K65.da_is_event KX G ?a ?l ?c ?k; (case a => k_is); (case l => k_is); (case c => k_is); (case k => k_is))
    (case Dplace_behind => refine' K65.da_place_behind KX G ?a ?l ?c ?k; (case a => k_is); (case l => k_is); (case c => k_is); (case k => k_is))
    (case Dneed_standing => refine' K65.da_need_standing KX G ?a ?l ?c ?k; (case a => k_is); (case l => k_is); (case c => k_is); (case k => k_is))
    (case Dneed_absent => refine' K65.da_need_absent KX G ?a ?l ?c ?k; (case a => k_is); (case l => k_is); (case c => k_is); (case k => k_is))
    (case Dstanding_with => refine' K65.da_standing_with KX G ?a ?l ?c ?k; (case a => k_is); (case l => k_is); (case c => k_is); (case k => k_is))
    (case Dbough_events => refine' K65.da_bough_events KX G ?a ?l ?c ?k; (case a => k_is); (case l => k_is); (case c => k_is); (case k => k_is))
    (case Dplay_events => refine' K65.da_play_events KX G ?a ?l ?c ?k; (case a => k_is); (case l => k_is); (case c => k_is); (case k => k_is))
    (case Dpacket_gone => refine' K65.da_packet_gone KX G ?a ?l ?c ?k; (case a => k_is); (case l => k_is); (case c => k_is); (case k => k_is))
    (case Dbough_standing => refine' K65.da_bough_standing KX G ?a ?l ?c ?k; (case a => k_is); (case l => k_is); (case c => k_is); (case k => k_is))
    (case Dlaw_tape => refine' K65.da_law_tape KX G ?a ?l ?c ?k; (case a => k_is); (case l => k_is); (case c => k_is); (case k => k_is))
    (case Dlaw_pick => refine' K65.da_law_pick KX G ?a ?l ?c ?k; (case a => k_is); (case l => k_is); (case c => k_is); (case k => k_is))
    (case Dlaw_same => refine' K65.da_law_same KX G ?a ?l ?c ?k; (case a => k_is); (case l => k_is); (case c => k_is); (case k => k_is))
    (case Dlaw_shape => refine' K65.da_law_shape KX G ?a ?l ?c ?k; (case a => k_is); (case l => k_is); (case c => k_is); (case k => k_is))
    (case Dlaw_spots => refine' K65.da_law_spots KX G ?a ?l ?c ?k; (case a => k_is); (case l => k_is); (case c => k_is); (case k => k_is))
    (case Dlaw_rank => refine' K65.da_law_rank KX G ?a ?l ?c ?k; (case a => k_is); (case l => k_is); (case c => k_is); (case k => k_is))
    (case Dlaw_depth => refine' K65.da_law_depth KX G ?a ?l ?c ?k; (case a => k_is); (case l => k_is); (case c => k_is); (case k => k_is))
    (case Dlaw_story => refine' K65.da_law_story KX G ?a ?l ?c ?k; (case a => k_is); (case l => k_is); (case c => k_is); (case k => k_is))
    (case Dlaw_play => refine' K65.da_law_play KX G ?a ?l ?c ?k; (case a => k_is); (case l => k_is); (case c => k_is); (case k => k_is))
    (case Dlaw_line => refine' K65.da_law_line KX G ?a ?l ?c ?k; (case a => k_is); (case l => k_is); (case c => k_is); (case k => k_is))
    (case Dlaw_due => refine' K65.da_law_due KX G ?a ?l ?c ?k; (case a => k_is); (case l => k_is); (case c => k_is); (case k => k_is))
    (case Dlaw_told => refine' K65.da_law_told KX G ?a ?l ?c ?k; (case a => k_is); (case l => k_is); (case c => k_is); (case k => k_is))
    (case Dlaw_bad_story => refine' K65.da_law_bad_story KX G ?a ?l ?c ?k; (case a => k_is); (case l => k_is); (case c => k_is); (case k => k_is))
    (case Dlaw_cut => refine' K65.da_law_cut KX G ?a ?l ?c ?k; (case a => k_is); (case l => k_is); (case c => k_is); (case k => k_is))
    (case Dlaw_refused => refine' K65.da_law_refused KX G ?a ?l ?c ?k; (case a => k_is); (case l => k_is); (case c => k_is); (case k => k_is))
    (case Dlaw_bough => refine' K65.da_law_bough KX G ?a ?l ?c ?k; (case a => k_is); (case l => k_is); (case c => k_is); (case k => k_is))
