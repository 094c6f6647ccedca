import PyProof.Rows.All
import Wide.All
import OpenK.AllK
import Wide.FinOn
import HandS.ForMost
import HandS.Walk
import HandS.Zip
import KE.GoesEnum
import KE.GoesNew
import HandS.Evl
import HandS.Flow
import HandS.Style
import HandS.Wide
import HandS.IsInst
import HandS.Defaults
import HandS.ExcInit
import HandS.Gcd
import HandS.Dict
import KE.GoesEnumKw
import HandS.SortKw
import HandS.More
import HandS.Deep
import HandS.HeadHook3
import HandS.Nested
import HandS.ExcSuper
import KE.KExcSuper
import KE.KExcIs
import HandS.HeadHook1
import HandS.HeadHook2
import HandS.HeadHook4
import HandS.Text
import HandS.SetFor
import PyProof.Rows.SortShellAny
import HandS.SortRule
import HandS.SortInts
import HandS.FromBytesMap
import KE.KSortKey
import PyProof.Rows.RegReprOcc
import HandS.DictComp
import PyProof.ListStr
import HandS.Head0
import HandS.Head1
import HandS.Head2
import HandS.HeadEnd
import PySem.Challenge.RW_newesttells_k08_whole_rows_by_closure
set_option Elab.async false
set_option linter.all false
set_option maxRecDepth 100000
set_option maxHeartbeats 4000000
namespace Nt
open PySem PySem.Spec PyProof.Rows L2
def top (i : Nat) : Stmt := PySem.Challenge.pw_newesttells_k08_whole_rows_by_closure.main.body.getD i (.Pass ⟨0, 0, 0, 0⟩)
abbrev s_is_name : Stmt := top 3
abbrev N_is_name : List Str := ["value", "letter"]
abbrev s_is_integer : Stmt := top 4
abbrev N_is_integer : List Str := ["value"]
abbrev s_is_number : Stmt := top 5
abbrev N_is_number : List Str := ["value", "least", "most"]
abbrev s_is_cell : Stmt := top 34
abbrev N_is_cell : List Str := ["value"]
abbrev s_check_cells : Stmt := top 35
abbrev N_check_cells : List Str := ["cells", "names", "at", "cell"]
abbrev s_is_row : Stmt := top 36
abbrev N_is_row : List Str := ["cells", "value", "sign", "cell"]
abbrev s_over : Stmt := top 37
abbrev N_over : List Str := ["newer", "older", "sign", "under"]
abbrev s_lot_of : Stmt := top 38
abbrev N_lot_of : List Str := ["row", "sign"]
abbrev s_blank : Stmt := top 39
abbrev N_blank : List Str := ["many"]
abbrev s_union : Stmt := top 40
abbrev N_union : List Str := ["one", "other"]
abbrev s_lot_size : Stmt := top 41
abbrev N_lot_size : List Str := ["lot"]
abbrev s_ordered_lots : Stmt := top 42
abbrev N_ordered_lots : List Str := ["lots"]
abbrev s_outside : Stmt := top 45
abbrev N_outside : List Str := ["seed", "told", "at", "sign"]
abbrev s_barring : Stmt := top 46
abbrev N_barring : List Str := ["seed", "told", "row", "at"]
abbrev s_can_be_taken : Stmt := top 47
abbrev N_can_be_taken : List Str := ["seed", "told", "row"]
abbrev s_next_taken : Stmt := top 48
abbrev N_next_taken : List Str := ["seeds", "told", "row", "seed"]
abbrev s_taking : Stmt := top 49
abbrev N_taking : List Str := ["seeds", "row", "taken", "told", "seed"]
abbrev s_tellers_outside : Stmt := top 50
abbrev N_tellers_outside : List Str := ["seeds", "told", "seed"]
abbrev s_comes_to : Stmt := top 51
abbrev N_comes_to : List Str := ["seeds", "row", "_", "told"]
abbrev s_come : Stmt := top 52
abbrev N_come : List Str := ["cells", "seeds", "row", "taken", "told", "paper", "seed", "place"]
abbrev s_is_made : Stmt := top 54
abbrev N_is_made : List Str := ["cells", "seeds", "row"]
abbrev s_word_of : Stmt := top 55
abbrev N_word_of : List Str := ["line"]
abbrev s_follow_takes : Stmt := top 56
abbrev N_follow_takes : List Str := ["seeds", "row", "paper", "told", "at", "line"]
abbrev s_bar_holds : Stmt := top 57
abbrev N_bar_holds : List Str := ["cells", "seed", "told", "row", "line", "place"]
abbrev s_count_bars : Stmt := top 58
abbrev N_count_bars : List Str := ["cells", "waiting", "told", "row", "lines", "bars", "seed", "line"]
abbrev s_look : Stmt := top 59
abbrev N_look : List Str := ["cells", "seeds", "paper", "row", "at", "told", "waiting", "bars", "ends"]
abbrev s_check_seeds : Stmt := top 61
abbrev N_check_seeds : List Str := ["cells", "seeds", "at", "seed"]
abbrev s_check_told : Stmt := top 62
abbrev N_check_told : List Str := ["cells", "rows", "at", "cell", "row"]
abbrev s_made_rows : Stmt := top 63
abbrev N_made_rows : List Str := ["many", "seeds", "most", "known", "fresh", "found", "row", "seed", "further"]
abbrev s_law_bag : Stmt := top 67
abbrev N_law_bag : List Str := ["_law_script", "_law_mixed", "_law_piece"]
abbrev s_law_draw : Stmt := top 68
abbrev N_law_draw : List Str := ["_law_bag_here", "_law_sides", "_law_piece", "_law_digit", "_law_state"]
abbrev s_law_of : Stmt := top 69
abbrev N_law_of : List Str := ["_law_bag_here", "_law_things"]
abbrev s_law_same : Stmt := top 70
abbrev N_law_same : List Str := ["_law_found", "_law_due", "_law_mark", "_law_x", "_law_y"]
abbrev s_law_title : Stmt := top 71
abbrev N_law_title : List Str := ["_law_bag_here", "_law_taken", "_law_title_here", "_law_k", "_law_sign"]
abbrev s_law_frame : Stmt := top 72
abbrev N_law_frame : List Str := ["_law_bag_here", "_law_size_here", "_law_widest", "_law_frame_here", "_law_taken", "_law_k"]
abbrev s_law_row : Stmt := top 73
abbrev N_law_row : List Str := ["_law_bag_here", "_law_frame_here", "_law_thin", "_law_pair"]
abbrev s_law_once : Stmt := top 74
abbrev N_law_once : List Str := ["_law_things", "_law_found", "_law_thing"]
abbrev s_law_stack : Stmt := top 75
abbrev N_law_stack : List Str := ["_law_bag_here", "_law_frame_here", "_law_size_here", "_law_found", "_law_thin", "_law_k", "_law_r", "_law_spot", "_law_last"]
abbrev s_law_size : Stmt := top 76
abbrev N_law_size : List Str := ["_law_bag_here"]
abbrev s_law_lay : Stmt := top 77
abbrev N_law_lay : List Str := ["_law_newer_row", "_law_older_row", "_law_x", "_law_y"]
abbrev s_law_lot : Stmt := top 78
abbrev N_law_lot : List Str := ["_law_r", "_law_sign"]
abbrev s_law_join : Stmt := top 79
abbrev N_law_join : List Str := ["_law_x", "_law_y", "_law_a", "_law_b"]
abbrev s_law_lots : Stmt := top 80
abbrev N_law_lots : List Str := ["_law_told", "_law_found", "_law_x", "_law_size_here"]
abbrev s_law_rows : Stmt := top 81
abbrev N_law_rows : List Str := ["_law_stack_here", "_law_wide", "_law_cap", "_law_found", "_law_known", "_law_k", "_law_r", "_law_s"]
abbrev s_law_fresh : Stmt := top 82
abbrev N_law_fresh : List Str := ["_law_s", "_law_told", "_law_k"]
abbrev s_law_fits : Stmt := top 83
abbrev N_law_fits : List Str := ["_law_s", "_law_r", "_law_told", "_law_fresh_here", "_law_k"]
abbrev s_law_greedy : Stmt := top 84
abbrev N_law_greedy : List Str := ["_law_stack_here", "_law_r", "_law_taken", "_law_told", "_law_k", "_law_ready", "_law_s"]
abbrev s_law_lines : Stmt := top 85
abbrev N_law_lines : List Str := ["_law_frame_here", "_law_stack_here", "_law_r", "_law_taken", "_law_told", "_law_s", "_law_found", "_law_bad", "_law_k"]
abbrev s_law_fillings : Stmt := top 86
abbrev N_law_fillings : List Str := ["_law_frame_here", "_law_found", "_law_pair", "_law_signs", "_law_longer", "_law_ahead", "_law_sign"]
abbrev s_law_paper_so : Stmt := top 87
abbrev N_law_paper_so : List Str := ["_law_band", "_law_frame_here", "_law_stack_here", "_law_r", "_law_made", "_law_answer"]
abbrev s_law : Stmt := top 88
abbrev N_law : List Str := ["_law_script", "_law_bag_here", "_law_frame_here", "_law_stack_here", "_law_made", "_law_band", "_law_full", "_law_lots_due", "_law_every", "_law_step", "_law_skip", "_law_k", "_law_asked", "_law_known", "_law_turn", "_law_x", "_law_y", "_law_a", "_law_b", "_law_r"]
def clsBody : Stmt → List Stmt
  | .ClassDef _ _ _ b _ _ _ _ _ _ _ => b
  | _ => []
abbrev s_Band___init : Stmt := (clsBody (top 64)).getD 0 (.Pass ⟨0, 0, 0, 0⟩)
abbrev N_Band___init : List Str := ["self", "cells", "seeds", "most", "rows", "row"]
abbrev s_Band_rows : Stmt := (clsBody (top 64)).getD 4 (.Pass ⟨0, 0, 0, 0⟩)
abbrev N_Band_rows : List Str := ["self"]
abbrev s_Band_full_rows : Stmt := (clsBody (top 64)).getD 5 (.Pass ⟨0, 0, 0, 0⟩)
abbrev N_Band_full_rows : List Str := ["self", "row"]
abbrev s_Band_lots : Stmt := (clsBody (top 64)).getD 6 (.Pass ⟨0, 0, 0, 0⟩)
abbrev N_Band_lots : List Str := ["self"]
abbrev s_Band_come : Stmt := (clsBody (top 64)).getD 9 (.Pass ⟨0, 0, 0, 0⟩)
abbrev N_Band_come : List Str := ["self", "row", "seeds"]
abbrev s_Band___contains : Stmt := (clsBody (top 64)).getD 19 (.Pass ⟨0, 0, 0, 0⟩)
abbrev N_Band___contains : List Str := ["self", "x"]
abbrev s_Band___len : Stmt := (clsBody (top 64)).getD 22 (.Pass ⟨0, 0, 0, 0⟩)
abbrev N_Band___len : List Str := ["self"]

def hFn0 : List He.DefD := [⟨("is_name", none), "is_name", "is_name", defArgs s_is_name, defBody s_is_name, defScope s_is_name, [], []⟩, ⟨("is_integer", none), "is_integer", "is_integer", defArgs s_is_integer, defBody s_is_integer, defScope s_is_integer, [], []⟩, ⟨("is_number", none), "is_number", "is_number", defArgs s_is_number, defBody s_is_number, defScope s_is_number, [], []⟩, ⟨("is_cell", none), "is_cell", "is_cell", defArgs s_is_cell, defBody s_is_cell, defScope s_is_cell, [], []⟩, ⟨("check_cells", none), "check_cells", "check_cells", defArgs s_check_cells, defBody s_check_cells, defScope s_check_cells, [], []⟩, ⟨("is_row", none), "is_row", "is_row", defArgs s_is_row, defBody s_is_row, defScope s_is_row, [], []⟩, ⟨("over", none), "over", "over", defArgs s_over, defBody s_over, defScope s_over, [], []⟩, ⟨("lot_of", none), "lot_of", "lot_of", defArgs s_lot_of, defBody s_lot_of, defScope s_lot_of, [], []⟩, ⟨("blank", none), "blank", "blank", defArgs s_blank, defBody s_blank, defScope s_blank, [], []⟩, ⟨("union", none), "union", "union", defArgs s_union, defBody s_union, defScope s_union, [], []⟩, ⟨("lot_size", none), "lot_size", "lot_size", defArgs s_lot_size, defBody s_lot_size, defScope s_lot_size, [], []⟩, ⟨("ordered_lots", none), "ordered_lots", "ordered_lots", defArgs s_ordered_lots, defBody s_ordered_lots, defScope s_ordered_lots, [], []⟩, ⟨("outside", none), "outside", "outside", defArgs s_outside, defBody s_outside, defScope s_outside, [], []⟩, ⟨("barring", none), "barring", "barring", defArgs s_barring, defBody s_barring, defScope s_barring, [], []⟩, ⟨("can_be_taken", none), "can_be_taken", "can_be_taken", defArgs s_can_be_taken, defBody s_can_be_taken, defScope s_can_be_taken, [], []⟩, ⟨("next_taken", none), "next_taken", "next_taken", defArgs s_next_taken, defBody s_next_taken, defScope s_next_taken, [], []⟩, ⟨("taking", none), "taking", "taking", defArgs s_taking, defBody s_taking, defScope s_taking, [], []⟩, ⟨("tellers_outside", none), "tellers_outside", "tellers_outside", defArgs s_tellers_outside, defBody s_tellers_outside, defScope s_tellers_outside, [], []⟩, ⟨("comes_to", none), "comes_to", "comes_to", defArgs s_comes_to, defBody s_comes_to, defScope s_comes_to, [], []⟩, ⟨("come", none), "come", "come", defArgs s_come, defBody s_come, defScope s_come, [], []⟩]
def hFn1 : List He.DefD := [⟨("is_made", none), "is_made", "is_made", defArgs s_is_made, defBody s_is_made, defScope s_is_made, [], []⟩, ⟨("word_of", none), "word_of", "word_of", defArgs s_word_of, defBody s_word_of, defScope s_word_of, [], []⟩, ⟨("follow_takes", none), "follow_takes", "follow_takes", defArgs s_follow_takes, defBody s_follow_takes, defScope s_follow_takes, [], []⟩, ⟨("bar_holds", none), "bar_holds", "bar_holds", defArgs s_bar_holds, defBody s_bar_holds, defScope s_bar_holds, [], []⟩, ⟨("count_bars", none), "count_bars", "count_bars", defArgs s_count_bars, defBody s_count_bars, defScope s_count_bars, [], []⟩, ⟨("look", none), "look", "look", defArgs s_look, defBody s_look, defScope s_look, [], []⟩, ⟨("check_seeds", none), "check_seeds", "check_seeds", defArgs s_check_seeds, defBody s_check_seeds, defScope s_check_seeds, [], []⟩, ⟨("check_told", none), "check_told", "check_told", defArgs s_check_told, defBody s_check_told, defScope s_check_told, [], []⟩, ⟨("made_rows", none), "made_rows", "made_rows", defArgs s_made_rows, defBody s_made_rows, defScope s_made_rows, [], []⟩, ⟨("_law_bag", none), "_law_bag", "_law_bag", defArgs s_law_bag, defBody s_law_bag, defScope s_law_bag, [], []⟩, ⟨("_law_draw", none), "_law_draw", "_law_draw", defArgs s_law_draw, defBody s_law_draw, defScope s_law_draw, [], []⟩, ⟨("_law_of", none), "_law_of", "_law_of", defArgs s_law_of, defBody s_law_of, defScope s_law_of, [], []⟩, ⟨("_law_same", none), "_law_same", "_law_same", defArgs s_law_same, defBody s_law_same, defScope s_law_same, [], []⟩, ⟨("_law_title", none), "_law_title", "_law_title", defArgs s_law_title, defBody s_law_title, defScope s_law_title, [], []⟩, ⟨("_law_frame", none), "_law_frame", "_law_frame", defArgs s_law_frame, defBody s_law_frame, defScope s_law_frame, [], []⟩, ⟨("_law_row", none), "_law_row", "_law_row", defArgs s_law_row, defBody s_law_row, defScope s_law_row, [.int 2], []⟩, ⟨("_law_once", none), "_law_once", "_law_once", defArgs s_law_once, defBody s_law_once, defScope s_law_once, [], []⟩, ⟨("_law_stack", none), "_law_stack", "_law_stack", defArgs s_law_stack, defBody s_law_stack, defScope s_law_stack, [], []⟩, ⟨("_law_size", none), "_law_size", "_law_size", defArgs s_law_size, defBody s_law_size, defScope s_law_size, [], []⟩, ⟨("_law_lay", none), "_law_lay", "_law_lay", defArgs s_law_lay, defBody s_law_lay, defScope s_law_lay, [], []⟩]
def hFn2 : List He.DefD := [⟨("_law_lot", none), "_law_lot", "_law_lot", defArgs s_law_lot, defBody s_law_lot, defScope s_law_lot, [], []⟩, ⟨("_law_join", none), "_law_join", "_law_join", defArgs s_law_join, defBody s_law_join, defScope s_law_join, [], []⟩, ⟨("_law_lots", none), "_law_lots", "_law_lots", defArgs s_law_lots, defBody s_law_lots, defScope s_law_lots, [], []⟩, ⟨("_law_rows", none), "_law_rows", "_law_rows", defArgs s_law_rows, defBody s_law_rows, defScope s_law_rows, [], []⟩, ⟨("_law_fresh", none), "_law_fresh", "_law_fresh", defArgs s_law_fresh, defBody s_law_fresh, defScope s_law_fresh, [], []⟩, ⟨("_law_fits", none), "_law_fits", "_law_fits", defArgs s_law_fits, defBody s_law_fits, defScope s_law_fits, [], []⟩, ⟨("_law_greedy", none), "_law_greedy", "_law_greedy", defArgs s_law_greedy, defBody s_law_greedy, defScope s_law_greedy, [], []⟩, ⟨("_law_lines", none), "_law_lines", "_law_lines", defArgs s_law_lines, defBody s_law_lines, defScope s_law_lines, [], []⟩, ⟨("_law_fillings", none), "_law_fillings", "_law_fillings", defArgs s_law_fillings, defBody s_law_fillings, defScope s_law_fillings, [], []⟩, ⟨("_law_paper_so", none), "_law_paper_so", "_law_paper_so", defArgs s_law_paper_so, defBody s_law_paper_so, defScope s_law_paper_so, [], []⟩, ⟨("law", none), "law", "law", defArgs s_law, defBody s_law, defScope s_law, [], []⟩, ⟨("Band", some "__init__"), "__init__", "Band.__init__", defArgs s_Band___init, defBody s_Band___init, defScope s_Band___init, [], [("most", .int 800)]⟩, ⟨("Band", some "rows"), "rows", "Band.rows", defArgs s_Band_rows, defBody s_Band_rows, defScope s_Band_rows, [], []⟩, ⟨("Band", some "full_rows"), "full_rows", "Band.full_rows", defArgs s_Band_full_rows, defBody s_Band_full_rows, defScope s_Band_full_rows, [], []⟩, ⟨("Band", some "lots"), "lots", "Band.lots", defArgs s_Band_lots, defBody s_Band_lots, defScope s_Band_lots, [], []⟩, ⟨("Band", some "come"), "come", "Band.come", defArgs s_Band_come, defBody s_Band_come, defScope s_Band_come, [], [("seeds", .non)]⟩, ⟨("Band", some "__contains__"), "__contains__", "Band.__contains__", defArgs s_Band___contains, defBody s_Band___contains, defScope s_Band___contains, [], []⟩, ⟨("Band", some "__len__"), "__len__", "Band.__len__", defArgs s_Band___len, defBody s_Band___len, defScope s_Band___len, [], []⟩]
def hFn : List He.DefD := hFn0 ++ hFn1 ++ hFn2
def hFa0 : List He.Fa := [.glo "is_name", .glo "is_integer", .glo "is_number", .glo "is_cell", .glo "check_cells", .glo "is_row", .glo "over", .glo "lot_of", .glo "blank", .glo "union", .glo "lot_size", .glo "ordered_lots", .glo "outside", .glo "barring", .glo "can_be_taken", .glo "next_taken", .glo "taking", .glo "tellers_outside", .glo "comes_to", .glo "come"]
def hFa1 : List He.Fa := [.glo "is_made", .glo "word_of", .glo "follow_takes", .glo "bar_holds", .glo "count_bars", .glo "look", .glo "check_seeds", .glo "check_told", .glo "made_rows", .glo "_law_bag", .glo "_law_draw", .glo "_law_of", .glo "_law_same", .glo "_law_title", .glo "_law_frame", .glo "_law_row", .glo "_law_once", .glo "_law_stack", .glo "_law_size", .glo "_law_lay"]
def hFa2 : List He.Fa := [.glo "_law_lot", .glo "_law_join", .glo "_law_lots", .glo "_law_rows", .glo "_law_fresh", .glo "_law_fits", .glo "_law_greedy", .glo "_law_lines", .glo "_law_fillings", .glo "_law_paper_so", .glo "law", .free "len", .free "all", .free "range", .free "zip", .free "enumerate", .free "isinstance", .free "list", .free "tuple", .free "dict"]
def hFa3 : List He.Fa := [.free "str", .free "int", .free "bool", .free "abs", .free "sorted", .free "set", .free "super", .int "LONGEST_NAME" 6, .str "ROW_SIGNS" ".0123", .int "MOST_ROWS" 800, .int "MOST_SEEDS" 30, .int "MOST_CELLS" 12, .int "MOST_VALUES" 4, .str "DIGITS" "0123", .str "DOT" ".", .str "PLUS" "+", .glo "LINE_SIZES", .glo "come_coming", .glo "Band", .cls "Band"]
def hFa4 : List He.Fa := [.mkr "Band", .noat "Band" "_cells", .noat "Band" "_seeds", .noat "Band" "_rows", .noat "Band" "_known", .noat "Band" "_lots", .meth "Band" "rows", .meth "Band" "full_rows", .meth "Band" "lots", .meth "Band" "come", .meth "Band" "__contains__", .meth "Band" "__len__"]
def hFa : List He.Fa := hFa0 ++ hFa1 ++ hFa2 ++ hFa3 ++ hFa4
def hNames0 : List PySem.Str := ["_wall", "LONGEST_NAME", "is_name", "is_integer", "is_number", "MANY_WORDS", "ROW_SIGNS", "text_of_band", "lines_of", "words_of", "is_row_word", "cell_in", "row_in", "cells_from", "rows_from", "TellsError", "BadCells", "BadSeed", "BadRow", "BadNumber"]
def hNames1 : List PySem.Str := ["TooMany", "Untold", "InvalidText", "MOST_ROWS", "MOST_SEEDS", "MOST_CELLS", "MOST_VALUES", "DIGITS", "DOT", "PLUS", "is_cell", "check_cells", "is_row", "over", "lot_of", "blank", "union", "lot_size", "ordered_lots", "LINE_SIZES"]
def hNames2 : List PySem.Str := ["outside", "barring", "can_be_taken", "next_taken", "taking", "tellers_outside", "comes_to", "come", "come_coming", "is_made", "word_of", "follow_takes", "bar_holds", "count_bars", "look", "check_seeds", "check_told", "made_rows", "Band", "band_or_none"]
def hNames3 : List PySem.Str := ["_law_bag", "_law_draw", "_law_of", "_law_same", "_law_title", "_law_frame", "_law_row", "_law_once", "_law_stack", "_law_size", "_law_lay", "_law_lot", "_law_join", "_law_lots", "_law_rows", "_law_fresh", "_law_fits", "_law_greedy", "_law_lines", "_law_fillings"]
def hNames4 : List PySem.Str := ["_law_paper_so"]
def hNames : List PySem.Str := hNames0 ++ hNames1 ++ hNames2 ++ hNames3 ++ hNames4
abbrev hR : PySem.W.OpenRow := PySem.W.OpenLaw.row PySem.Challenge.rw_newesttells_k08_whole_rows_by_closure
def hTs : List He.Tab := [((fun K => He.ga K "LINE_SIZES"), ["row", "take", "made", "bar", "barred"])]
def hVals_LINE_SIZES : List (PySem.Str × He.Dv) := [("row", .int 2), ("take", .int 2), ("made", .int 1), ("bar", .int 3), ("barred", .int 1)]
def hEx (K : PySem.W.Frag) : Bool := (He.valsB K (He.ga K "LINE_SIZES") hVals_LINE_SIZES && decide (He.ga K "come_coming" = He.ga K "come"))
theorem hV_LINE_SIZES {K : PySem.W.Frag} (mo : hEx K = true) : ∀ q ∈ ([("row", 2), ("take", 2), ("made", 1), ("bar", 3), ("barred", 1)] : List (PySem.Str × Int)), ∃ u, PySem.W.nsIn K (He.ga K "LINE_SIZES") q.1 = some (some u) ∧ RelV (.int q.2) u := by
  intro q hq
  have mo : (He.valsB K (He.ga K "LINE_SIZES") hVals_LINE_SIZES && decide (He.ga K "come_coming" = He.ga K "come")) = true := mo
  have key : ∀ p ∈ hVals_LINE_SIZES, ∃ u, PySem.W.nsIn K (He.ga K "LINE_SIZES") p.1 = some (some u) ∧ RelV (p.2.v K) u := fun p hp => He.valsB_ok (He.ba mo).1 hp
  simp only [List.mem_cons, List.not_mem_nil, or_false] at hq
  rcases hq with h | h | h | h | h
  · rw [h]; exact key ("row", .int 2) (by simp [hVals_LINE_SIZES])
  · rw [h]; exact key ("take", .int 2) (by simp [hVals_LINE_SIZES])
  · rw [h]; exact key ("made", .int 1) (by simp [hVals_LINE_SIZES])
  · rw [h]; exact key ("bar", .int 3) (by simp [hVals_LINE_SIZES])
  · rw [h]; exact key ("barred", .int 1) (by simp [hVals_LINE_SIZES])
theorem hA_come_coming {K : PySem.W.Frag} (mo : hEx K = true) : He.ga K "come_coming" = He.ga K "come" := by
  have mo : (He.valsB K (He.ga K "LINE_SIZES") hVals_LINE_SIZES && decide (He.ga K "come_coming" = He.ga K "come")) = true := mo
  exact of_decide_eq_true (He.ba mo).2
abbrev hHk : PySem.W.Hook := He.hookX 4 hFa hFn hTs [] hEx
def hOb (s : PySem.W.SharedT) : He.AlX := He.obsX 4 hFa hFn hTs [] hEx (HandSHeadRun.getT s)
theorem hOb_eq (s : PySem.W.SharedT) : hOb s = hHk.obs s.abs := He.obsX_eq (HandSHeadRun.getT_eq s)
def wF (w : World) (b : Bool) : World := { w with params := { w.params with followText := fun s => bif s == "special-get-raises" then b else w.params.followText s } }
theorem wF_eq (w : World) : wF w (w.params.followText "special-get-raises") = w := by
  have q : (fun s => bif s == "special-get-raises" then w.params.followText "special-get-raises" else w.params.followText s) = w.params.followText := by
    funext s
    by_cases e : s = "special-get-raises"
    · subst e; rfl
    · have : (s == "special-get-raises") = false := beq_eq_false_iff_ne.mpr e
      rw [this]; rfl
  show ({ w with params := { w.params with followText := (fun s => bif s == "special-get-raises" then w.params.followText "special-get-raises" else w.params.followText s) } } : World) = w
  rw [q]
section
open PySem PySem.W PySem.Calls PyProof.Rows HandSHeadRun
theorem run_of {r : OpenRow} {q : Program} {H : Hook} {ob : SharedT → H.α} {M : Nat} {loose : List PySem.Str} {w : World}
    (h1 : ∀ os : OsState, (endF (stepQ (denQ tabQ) r.prog w) M r.prog w os).map (fun s => (looksF r.prog (boot_heap w.params) s.abs, seenQ q loose (importedModules r.prog.main.body) (fun s => xlAt q [] s && recOk r.toRowW.records s) s.abs)) = some (true, openGood q loose))
    (h2 : ∀ os : OsState, (endF (stepQ (denQ tabQ) r.prog w) M r.prog w os).map ob = some (H.val w)) : RunEq r q H ob M loose w := fun os => by
  have a := h1 os
  have b := h2 os
  cases e : endF (stepQ (denQ tabQ) r.prog w) M r.prog w os with
  | none => rw [e] at a; cases a
  | some s =>
    rw [e] at a b
    obtain ⟨a1, a2⟩ := Prod.mk.inj (Option.some.inj a)
    have b1 := Option.some.inj b
    exact congrArg some (Prod.ext a1 (Prod.ext a2 b1))
theorem hRunAT (w : World) : ∀ os : OsState, (endF (stepQ (denQ tabQ) hR.prog (wF w true)) 6000 hR.prog (wF w true) os).map (fun s => (looksF hR.prog (boot_heap (wF w true).params) s.abs, seenQ (view hR.prog [88]) hNames (importedModules hR.prog.main.body) (fun s => xlAt (view hR.prog [88]) [] s && recOk hR.toRowW.records s) s.abs)) = some (true, openGood (view hR.prog [88]) hNames) := by
  intro os
  kernel_rfl
theorem hRunBT (w : World) : ∀ os : OsState, (endF (stepQ (denQ tabQ) hR.prog (wF w true)) 6000 hR.prog (wF w true) os).map hOb = some (hHk.val (wF w true)) := by
  intro os
  kernel_rfl
theorem hRunT (w : World) : RunEq hR (view hR.prog [88]) hHk hOb 6000 hNames (wF w true) := run_of (hRunAT w) (hRunBT w)
theorem hRunAF (w : World) : ∀ os : OsState, (endF (stepQ (denQ tabQ) hR.prog (wF w false)) 6000 hR.prog (wF w false) os).map (fun s => (looksF hR.prog (boot_heap (wF w false).params) s.abs, seenQ (view hR.prog [88]) hNames (importedModules hR.prog.main.body) (fun s => xlAt (view hR.prog [88]) [] s && recOk hR.toRowW.records s) s.abs)) = some (true, openGood (view hR.prog [88]) hNames) := by
  intro os
  kernel_rfl
theorem hRunBF (w : World) : ∀ os : OsState, (endF (stepQ (denQ tabQ) hR.prog (wF w false)) 6000 hR.prog (wF w false) os).map hOb = some (hHk.val (wF w false)) := by
  intro os
  kernel_rfl
theorem hRunF (w : World) : RunEq hR (view hR.prog [88]) hHk hOb 6000 hNames (wF w false) := run_of (hRunAF w) (hRunBF w)
end
theorem hRun (w : World) : HandSHeadRun.RunEq hR (PySem.W.view hR.prog [88]) hHk hOb 6000 hNames w := by
  have k : HandSHeadRun.RunEq hR (PySem.W.view hR.prog [88]) hHk hOb 6000 hNames (wF w (w.params.followText "special-get-raises")) := by
    cases w.params.followText "special-get-raises"
    · exact hRunF w
    · exact hRunT w
  rwa [wF_eq] at k
end Nt
namespace Nt
open PySem PySem.Spec PyProof.Rows L2
/-! ### what zip and enumerate go over: a text, a list, a tuple -/
inductive Sk where
  | txt (z : Str)
  | lst (a : Addr)
  | tup (a : Addr)
def Sk.val : Sk → V
  | .txt z => .str z
  | .lst a => .ref a
  | .tup a => .ref a
def Sk.fp : Sk → List Addr
  | .txt _ => []
  | .lst a => [a]
  | .tup a => [a]
def Sk.it : Sk → Addr → Nat → Heap → Prop
  | .txt z, it, i, h => ∃ t, h.IsStrIter it (strIterType z) z t i
  | .lst a, it, i, h => h.IsListIter it a i
  | .tup a, it, i, h => h.IsTupleIter it a i
/-- the things that stand in a value, told by the abstract heap -/
def Sk.has (K : PySem.W.Frag) (H : Hp) : Sk → List V → Prop
  | .txt z, xs => xs = z.cps.toList.map fun c => V.str ⟨#[c]⟩
  | .lst a, xs => SqL K H a xs
  | .tup a, xs => SqT K H a xs
theorem Sk.it_at {k : Sk} {it : Addr} {i : Nat} {h h' : Heap} (s : k.it it i h) (e : ∀ o, h.get? it = some o → h'.get? it = some o) : k.it it i h' := by
  cases k with
  | txt z => obtain ⟨t, o, ho, r⟩ := s; exact ⟨t, o, e o ho, r⟩
  | lst a => exact Heap.IsListIter.at s e
  | tup a => obtain ⟨o, ho, r⟩ := s; exact ⟨o, e o ho, r⟩
theorem Sk.it_obj {k : Sk} {it : Addr} {i : Nat} {h : Heap} (s : k.it it i h) : ∃ o, h.get? it = some o ∧ ∀ v, o.data ≠ .cell v := by
  cases k with
  | txt z => obtain ⟨t, o, ho, _, d⟩ := s; exact ⟨o, ho, fun v q => by rw [d] at q; cases q⟩
  | lst a => obtain ⟨o, ho, _, d⟩ := s; exact ⟨o, ho, fun v q => by rw [d] at q; cases q⟩
  | tup a => obtain ⟨o, ho, _, d⟩ := s; exact ⟨o, ho, fun v q => by rw [d] at q; cases q⟩
section
variable {X : Cx} {pins : List (Addr × Obj)} {σ : L2.St} {H : Hp} {s : Shared} {k : Sk} {xs : List V}
theorem Sk.has_inj {ys : List V} (I : L2.Inv X pins σ H s) (a : k.has X.K H xs) (b : k.has X.K H ys) : xs = ys := by
  cases k with
  | txt z => exact Eq.trans a (Eq.symm b)
  | lst q => exact I.list_inj a b
  | tup q => exact I.tuple_inj a b
/-- what draws its items, at the heap as it stands -/
theorem Sk.draws {w : World} {A : Around} (I : L2.Inv X pins σ H s) (hh : A.handled = none) (hk : k.has X.K H xs) (it : Addr) (hit : it ∉ k.fp) (i : Nat) (hi : k.it it i s.heap) :
    ∃ (P : Nat → Value → Prop) (St : Nat → Heap → Prop), Draws X.prog w A it (it :: k.fp) xs.length P St ∧ (∀ i u, P i u → ∃ x, xs[i]? = some x ∧ RelV x u) ∧
      (∀ i h, St i h → k.it it i h) ∧ St i s.heap := by
  cases k with
  | txt z =>
    cases hk
    obtain ⟨t, hi⟩ := hi
    have D := Draws.text (prog := X.prog) (w := w) (A := A) hh it z t
    have e : (List.map (fun c => V.str ⟨#[c]⟩) z.cps.toList).length = z.cps.size := by simp
    refine ⟨_, fun i h => h.IsStrIter it (strIterType z) z t i, (by rw [e]; exact D), ?_, fun i h q => ⟨t, q⟩, hi⟩
    rintro i u ⟨c, t', hc, rfl⟩
    refine ⟨V.str ⟨#[c]⟩, ?_, ⟨t', rfl⟩⟩
    rw [List.getElem?_map]
    have : z.cps.toList[i]? = some c := by simpa using hc
    rw [this]; rfl
  | lst a =>
    obtain ⟨its, rv, p, hz⟩ := I.list hk
    have ne : a ≠ it := fun e => hit (by simp [Sk.fp, e])
    have hl := rv.length
    have D := Draws.list (prog := X.prog) (w := w) (A := A) hh it a ne its.toArray
    have e : its.toArray.size = xs.length := by simp [hl]
    rw [e] at D
    refine ⟨_, fun i h => h.IsListIter it a i ∧ h.IsList a its.toArray, D, ?_, fun i h q => q.1, ⟨hi, p.isList⟩⟩
    intro i u hu
    have hu' : its[i]? = some u := by simpa using hu
    obtain ⟨h1, e1⟩ := List.getElem?_eq_some_iff.mp hu'
    have hx : xs[i]? = some (xs[i]'(by omega)) := List.getElem?_eq_getElem (by omega)
    obtain ⟨u', q1, q2⟩ := rv.get hx
    rw [hu'] at q1
    cases q1
    exact ⟨_, hx, q2⟩
  | tup a =>
    obtain ⟨its, rv, p, hz⟩ := I.tuple hk
    have ne : a ≠ it := fun e => hit (by simp [Sk.fp, e])
    have hl := rv.length
    have D := Draws.tuple (prog := X.prog) (w := w) (A := A) hh it a ne its.toArray
    have e : its.toArray.size = xs.length := by simp [hl]
    rw [e] at D
    refine ⟨_, fun i h => h.IsTupleIter it a i ∧ h.IsTuple a its.toArray, D, ?_, fun i h q => q.1, ⟨hi, p⟩⟩
    intro i u hu
    have hu' : its[i]? = some u := by simpa using hu
    obtain ⟨h1, e1⟩ := List.getElem?_eq_some_iff.mp hu'
    have hx : xs[i]? = some (xs[i]'(by omega)) := List.getElem?_eq_getElem (by omega)
    obtain ⟨u', q1, q2⟩ := rv.get hx
    rw [hu'] at q1
    cases q1
    exact ⟨_, hx, q2⟩
/-- how it begins -/
theorem Sk.begins (I : L2.Inv X pins σ H s) (hk : k.has X.K H xs) {u : Value} (r : RelV k.val u) :
    ∃ (o : Obj) (Hc : Heap → Prop), Begins u o Hc ∧ Hc s.heap ∧ (∀ h it, h.get? it = some o → k.it it 0 h) ∧ ∀ b ∈ k.fp, b < s.heap.objs.size := by
  cases k with
  | txt z =>
    obtain ⟨t, rfl⟩ := r
    exact ⟨_, _, begins_text z t, trivial, fun h it e => ⟨t, _, e, rfl, rfl⟩, fun b hb => absurd hb (by simp [Sk.fp])⟩
  | lst a =>
    cases r
    obtain ⟨its, rv, p, hz⟩ := I.list hk
    exact ⟨_, _, begins_list a its.toArray, p.isList, fun h it e => ⟨_, e, rfl, rfl⟩, fun b hb => by
      have : b = a := by simpa [Sk.fp] using hb
      rw [this]; exact p.lt⟩
  | tup a =>
    cases r
    obtain ⟨its, rv, p, hz⟩ := I.tuple hk
    exact ⟨_, _, begins_tuple a its.toArray, p, fun h it e => ⟨_, e, rfl, rfl⟩, fun b hb => by
      have : b = a := by simpa [Sk.fp] using hb
      obtain ⟨o, e, _⟩ := p
      rw [this]; exact Heap.lt_size e⟩
end
/-! ### zip(a, b) -/
def ItZ (K : PySem.W.Frag) (k1 k2 : Sk) : It :=
  ⟨fun i H => ∃ xs ys, k1.has K H xs ∧ k2.has K H ys ∧ i < xs.length ∧ i < ys.length,
    fun i H v H' => ∃ T x y, v = .ref T ∧ H T = none ∧ H' = upd H T (.tup [x, y]) ∧ (∀ xs, k1.has K H xs → xs[i]? = some x) ∧ ∀ ys, k2.has K H ys → ys[i]? = some y,
    fun i H => ∃ xs ys, k1.has K H xs ∧ k2.has K H ys ∧ i = min xs.length ys.length⟩
def SepZ (z TI TO i1 i2 : Addr) (k1 k2 : Sk) : Prop := ZipSep2 z TI TO i1 i2 (i1 :: k1.fp) (i2 :: k2.fp)
theorem turn_zipG {P : Program} {w : World} {K : PySem.W.Frag} {elts : List Expr} {kk : Nat} {tpos : Pos} {k1 k2 : Sk} {z TI TO i1 i2 : Addr} (S : SepZ z TI TO i1 i2 k1 k2) (h12 : i1 ∉ k1.fp) (h22 : i2 ∉ k2.fp) :
    Turn P w K (.Tuple elts kk tpos) (ItZ K k1 k2) [z, TI, TO, i1, i2] z (fun i h => IsZip h z TI TO .none ∧ IsTupOf2 h TI (.ref i1) (.ref i2) ∧ (∃ x y, IsTupOf2 h TO x y) ∧ k1.it i1 i h ∧ k2.it i2 i h) where
  mem := by simp
  obj := fun i h st c hc => by
    obtain ⟨hz, hTI, ⟨x, y, hTO⟩, h1, h2⟩ := st
    have e' : c = z ∨ c = TI ∨ c = TO ∨ c = i1 ∨ c = i2 := by simpa using hc
    rcases e' with q | q | q | q | q
    · rw [q]; exact ⟨_, hz, fun v q => nomatch q⟩
    · rw [q]; exact ⟨_, hTI, fun v q => nomatch q⟩
    · rw [q]; exact ⟨_, hTO, fun v q => nomatch q⟩
    · rw [q]; exact Sk.it_obj h1
    · rw [q]; exact Sk.it_obj h2
  keep := fun i h h' st k => by
    obtain ⟨hz, hTI, ⟨x, y, hTO⟩, h1, h2⟩ := st
    exact ⟨k z (by simp) _ hz, k TI (by simp) _ hTI, ⟨x, y, k TO (by simp) _ hTO⟩, Sk.it_at h1 fun o q => k i1 (by simp) o q, Sk.it_at h2 fun o q => k i2 (by simp) o q⟩
  item := by
    intro X hP hw hK hc i pins s σ H E I hf st hg
    subst hP hw hK
    obtain ⟨hz, hTI, hTO, h1, h2⟩ := st
    obtain ⟨xs, ys, hx, hy, lx, ly⟩ := hg
    have hh : X.A.in1.handled = none := I.ok.hd hc
    obtain ⟨P1, St1, D1, p1, a1, b1⟩ := Sk.draws (w := X.w) (A := X.A.in1) I hh hx i1 h12 i h1
    obtain ⟨P2, St2, D2, p2, a2, b2⟩ := Sk.draws (w := X.w) (A := X.A.in1) I hh hy i2 h22 i h2
    have W := GoesN.zip2 (elts := elts) (x1 := kk) (pos := tpos) S D1 D2
    have hlt : ∀ c ∈ [z, TI, TO, i1, i2], c < s.heap.objs.size := fun c hcm => by
      have e' : c = z ∨ c = TI ∨ c = TO ∨ c = i1 ∨ c = i2 := by simpa using hcm
      rcases e' with q | q | q | q | q
      · rw [q]; exact Heap.lt_size hz
      · rw [q]; exact Heap.lt_size hTI
      · rw [q]; obtain ⟨_, _, e⟩ := hTO; exact Heap.lt_size e
      · rw [q]; obtain ⟨_, e1, _⟩ := Sk.it_obj h1; exact Heap.lt_size e1
      · rw [q]; obtain ⟨_, e1, _⟩ := Sk.it_obj h2; exact Heap.lt_size e1
    refine thn (W.goes i s (fun v s2 => ∃ x H', L2.Inv X pins σ H' s2 ∧ RelV x v ∧ (ItZ X.K k1 k2).yld i H x H' ∧ (IsZip s2.heap z TI TO .none ∧ IsTupOf2 s2.heap TI (.ref i1) (.ref i2) ∧ (∃ x y, IsTupOf2 s2.heap TO x y) ∧ k1.it i1 (i + 1) s2.heap ∧ k2.it i2 (i + 1) s2.heap) ∧ ∀ b ∈ [z, TI, TO, i1, i2], H' b = none) E (by omega) ⟨hz, hTI, hTO, b1, b2⟩ ?_) fun r s1 q => q
    rintro v h' tk ⟨T, u1, u2, rfl, hT, q1, q2, hTT⟩ ⟨g1, g2, g3, g4, g5⟩ kk' _
    obtain ⟨x, ex, rx⟩ := p1 i u1 q1
    obtain ⟨y, ey, ry⟩ := p2 i u2 q2
    have new : ObjOk X.prog X.w (upd H T (.tup [x, y])) h' T (.tup [x, y]) := ⟨by show 2 ≤ sizeLine; decide, [u1, u2], .cons rx (.cons ry .nil), hTT⟩
    have I1 : L2.Inv X pins σ (upd H T (.tup [x, y])) { s with heap := h', toks := tk } :=
      I.turnedNew (t' := tk) (ch := [z, TI, TO, i1, i2]) (fun c o hb q => kk' c o (fun q' => hb (by
        have e' : c = z ∨ c = TO ∨ c = i1 ∨ c = i2 := by simpa using q'
        rcases e' with e | e | e | e <;> simp [e])) q) hf hT new
    refine ⟨.ref T, _, I1, rfl, ⟨T, x, y, rfl, I.hok.fresh hT, rfl, fun l hl => by rw [Sk.has_inj I hl hx]; exact ex, fun l hl => by rw [Sk.has_inj I hl hy]; exact ey⟩, ⟨g1, g2, g3, a1 _ _ g4, a2 _ _ g5⟩, fun c hcm => ?_⟩
    have h3 := hlt c hcm
    rw [upd_ne (Nat.ne_of_lt (Nat.lt_of_lt_of_le h3 hT))]
    exact (hf c hcm).1
  done := by
    intro X hP hw hK hc i pins s σ H E I hf st hg
    subst hP hw hK
    obtain ⟨hz, hTI, hTO, h1, h2⟩ := st
    obtain ⟨xs, ys, hx, hy, e⟩ := hg
    have hh : X.A.in1.handled = none := I.ok.hd hc
    obtain ⟨P1, St1, D1, p1, a1, b1⟩ := Sk.draws (w := X.w) (A := X.A.in1) I hh hx i1 h12 i h1
    obtain ⟨P2, St2, D2, p2, a2, b2⟩ := Sk.draws (w := X.w) (A := X.A.in1) I hh hy i2 h22 i h2
    have W := GoesN.zip2 (elts := elts) (x1 := kk) (pos := tpos) S D1 D2
    subst e
    refine W.stops s (fun s1 => L2.Inv X pins σ H s1) E ⟨hz, hTI, hTO, b1, b2⟩ fun h' tk k _ => ?_
    exact I.turnedL (t' := tk) (ch := [z, TI, TO, i1, i2]) (fun c o hb q => k c o (fun q' => hb (by
        have e' : c = z ∨ c = TO ∨ c = i1 ∨ c = i2 := by simpa using q'
        rcases e' with e | e | e | e <;> simp [e])) q) hf
  self := fun A i s Q E st h => wpAny_pyIter_zip st.1 h
def iZipG (K : PySem.W.Frag) (ta : TA) : TI := fun σ H R => ta σ H fun vs H1 => ∃ (k1 k2 : Sk) (xs ys : List V), vs = [k1.val, k2.val] ∧ k1.has K H1 xs ∧ k2.has K H1 ys ∧ R (ItZ K k1 k2) H1
theorem pi_zipG {X : Cx} {e e2 : Expr} {ta : TA} {p pos tpos : Pos} {elts : List Expr} {kk : Nat} (hg : Gl X "zip") (hm : X.mg "zip" = none) (ha : PA X [e, e2] ta)
    (hs : starEach [e, e2] X.env = (false, eval e X.env) :: starEach [e2] X.env := by rfl) (hpl : (backTo pos (starEach [e2] X.env)).any (·.1) = false := by rfl) :
    PI X (.Tuple elts kk tpos) (.Call (.Name "zip" p) [e, e2] [] pos) (iZipG X.K ta) := by
  refine ⟨fun pins s σ H R I h => ?_⟩
  refine Call_ (ld_blt I hg hm PyProof.Rows.boot_zip (PyProof.Rows.callWith_type1 (thn (ha.run pos pins s σ H _ I h) fun us s1 ⟨vs, H1, I1, r1, q1⟩ => ?_) hs hpl))
  obtain ⟨k1, k2, xs, ys, ex, hx, hy, q⟩ := q1
  subst ex
  obtain ⟨u1, u2, rfl, ra, rb⟩ := vals2 r1
  obtain ⟨o1, Hc1, B1, c1, t1, f1⟩ := Sk.begins I1 hx ra
  obtain ⟨o2, Hc2, B2, c2, t2, f2⟩ := Sk.begins I1 hy rb
  refine zip_begins2 B1 B2 c1 c2 fun h' hz hTI hTO g1 g2 hsz hk => wpAny_pyIter_zip hz ?_
  have I2 : L2.Inv X pins σ H1 { s1 with heap := h' } := I1.kept (t' := s1.toks) hk
  refine ⟨s1.heap.objs.size + 4, [s1.heap.objs.size + 4, s1.heap.objs.size + 2, s1.heap.objs.size + 3, s1.heap.objs.size, s1.heap.objs.size + 1], _, _, H1, rfl, I2,
    turn_zipG (zip_sep2 f1 f2) (fun z => Nat.lt_irrefl _ (f1 _ z)) (fun z => absurd (f2 _ z) (Nat.not_lt_of_le (Nat.le_succ _))), ⟨hz, hTI, ⟨_, _, hTO⟩, t1 _ _ g1, t2 _ _ g2⟩, fun c hcm => ?_, q⟩
  have e' : c = s1.heap.objs.size + 4 ∨ c = s1.heap.objs.size + 2 ∨ c = s1.heap.objs.size + 3 ∨ c = s1.heap.objs.size ∨ c = s1.heap.objs.size + 1 := by simpa using hcm
  have hle : s1.heap.objs.size ≤ c := by
    rcases e' with z | z | z | z | z
    · rw [z]; exact Nat.le_add_right _ _
    · rw [z]; exact Nat.le_add_right _ _
    · rw [z]; exact Nat.le_add_right _ _
    · rw [z]; exact Nat.le_refl _
    · rw [z]; exact Nat.le_add_right _ _
  exact I1.fpOk hle (I1.hok.fresh hle)
theorem walk_zipG {K : PySem.W.Frag} {k1 k2 : Sk} {xs ys : List V} {n : Nat} (hn : n = min xs.length ys.length) :
    Walk (ItZ K k1 k2) n (fun H => k1.has K H xs ∧ k2.has K H ys) (YPair (fun i => xs[i]?) (fun i => ys[i]?)) := by
  subst hn
  refine ⟨fun i _ hi q => ⟨xs, ys, q.1, q.2, by omega, by omega⟩, fun _ q => ⟨xs, ys, q.1, q.2, rfl⟩, fun i H v H' _ q y => ?_⟩
  obtain ⟨T, x, z, h1, h2, h3, h4, h5⟩ := y
  exact ⟨T, x, z, h1, h2, h3, h4 xs q.1, h5 ys q.2⟩
/-! ### enumerate(text) -/
def ItE (z : Str) : It :=
  ⟨fun i _ => i < z.cps.size, fun i H v H' => ∃ (T : Addr) (c : Nat), v = .ref T ∧ H T = none ∧ H' = upd H T (.tup [.int (i : Nat), .str ⟨#[c]⟩]) ∧ z.cps[i]? = some c, fun i _ => i = z.cps.size⟩
theorem turn_enumS {P : Program} {w : World} {K : PySem.W.Frag} {elts : List Expr} {kk : Nat} {tpos : Pos} {z : Str} {e it : Addr} (hne : e ≠ it) :
    Turn P w K (.Tuple elts kk tpos) (ItE z) [e, it] e (fun i h => (∃ old, IsEnum h e it (0 + (i : Int)) old) ∧ (Sk.txt z).it it i h) where
  mem := by simp
  obj := fun i h st c hc => by
    obtain ⟨⟨old, he⟩, h1⟩ := st
    have e' : c = e ∨ c = it := by simpa using hc
    rcases e' with q | q
    · rw [q]; exact ⟨_, he, fun v q => nomatch q⟩
    · rw [q]; exact Sk.it_obj h1
  keep := fun i h h' st k => by
    obtain ⟨⟨old, he⟩, h1⟩ := st
    exact ⟨⟨old, k e (by simp) _ he⟩, Sk.it_at h1 fun o q => k it (by simp) o q⟩
  item := by
    intro X hP hw hK hc i pins s σ H E I hf st hg
    subst hP hw hK
    obtain ⟨⟨old, he⟩, h1⟩ := st
    have hh : X.A.in1.handled = none := I.ok.hd hc
    obtain ⟨P1, St1, D1, p1, a1, b1⟩ := Sk.draws (k := .txt z) (w := X.w) (A := X.A.in1) I hh rfl it (by simp [Sk.fp]) i h1
    have W := GoesN.enumFrom (elts := elts) (x1 := kk) (pos := tpos) 0 D1 e hne (by simp [Sk.fp, hne]) (by simp [Sk.fp])
    have hlt : ∀ c ∈ [e, it], c < s.heap.objs.size := fun c hcm => by
      have e' : c = e ∨ c = it := by simpa using hcm
      rcases e' with q | q
      · rw [q]; exact Heap.lt_size he
      · rw [q]; obtain ⟨_, e1, _⟩ := Sk.it_obj h1; exact Heap.lt_size e1
    have hg' : i < z.cps.size := hg
    have hi : i < (List.map (fun c => V.str ⟨#[c]⟩) z.cps.toList).length := by simpa using hg'
    refine thn (W.goes i s (fun v s2 => ∃ x H', L2.Inv X pins σ H' s2 ∧ RelV x v ∧ (ItE z).yld i H x H' ∧ ((∃ old, IsEnum s2.heap e it (0 + ((i + 1 : Nat) : Int)) old) ∧ (Sk.txt z).it it (i + 1) s2.heap) ∧ ∀ b ∈ [e, it], H' b = none) E hi ⟨⟨old, he⟩, b1⟩ ?_) fun r s1 q => q
    rintro v h' tk ⟨T, t, u, rfl, hT, q1, hTT⟩ ⟨g1, g2⟩ kk' _
    obtain ⟨x, ex, rx⟩ := p1 i u q1
    obtain ⟨c, hc1, rfl⟩ : ∃ c, z.cps[i]? = some c ∧ x = V.str ⟨#[c]⟩ := by
      rw [List.getElem?_map] at ex
      cases hq : z.cps.toList[i]? with
      | none => rw [hq] at ex; cases ex
      | some c => rw [hq] at ex; exact ⟨c, by simpa using hq, (Option.some.inj ex).symm⟩
    have new : ObjOk X.prog X.w (upd H T (.tup [.int (i : Nat), .str ⟨#[c]⟩])) h' T (.tup [.int (i : Nat), .str ⟨#[c]⟩]) :=
      ⟨by show 2 ≤ sizeLine; decide, [.int (0 + (i : Int)) t, u], .cons ⟨t, by rw [Int.zero_add]⟩ (.cons rx .nil), hTT⟩
    have I1 : L2.Inv X pins σ (upd H T (.tup [.int (i : Nat), .str ⟨#[c]⟩])) { s with heap := h', toks := tk } :=
      I.turnedNew (t' := tk) (ch := [e, it]) (fun c o hb q => kk' c o hb q) hf hT new
    refine ⟨.ref T, _, I1, rfl, ⟨T, c, rfl, I.hok.fresh hT, rfl, hc1⟩, ⟨g1, a1 _ _ g2⟩, fun c hcm => ?_⟩
    rw [upd_ne (Nat.ne_of_lt (Nat.lt_of_lt_of_le (hlt c hcm) hT))]
    exact (hf c hcm).1
  done := by
    intro X hP hw hK hc i pins s σ H E I hf st hg
    subst hP hw hK
    obtain ⟨⟨old, he⟩, h1⟩ := st
    have hh : X.A.in1.handled = none := I.ok.hd hc
    obtain ⟨P1, St1, D1, p1, a1, b1⟩ := Sk.draws (k := .txt z) (w := X.w) (A := X.A.in1) I hh rfl it (by simp [Sk.fp]) i h1
    have W := GoesN.enumFrom (elts := elts) (x1 := kk) (pos := tpos) 0 D1 e hne (by simp [Sk.fp, hne]) (by simp [Sk.fp])
    have hg' : i = z.cps.size := hg
    have hi : i = (List.map (fun c => V.str ⟨#[c]⟩) z.cps.toList).length := by simpa using hg'
    rw [← hi] at W
    exact W.stops s (fun s1 => L2.Inv X pins σ H s1) E ⟨⟨old, he⟩, b1⟩ fun h' tk k _ => I.turnedL (t' := tk) (ch := [e, it]) (fun c o hb q => k c o hb q) hf
  self := fun A i s Q E st h => let ⟨⟨_, he⟩, _⟩ := st; wpAny_pyIter_enum he h
def iEnumS (ta : TA) : TI := fun σ H R => ta σ H fun vs H1 => ∃ z, vs = [.str z] ∧ R (ItE z) H1
theorem pi_enumS {X : Cx} {e : Expr} {ta : TA} {p pos tpos : Pos} {elts : List Expr} {kk : Nat} (hg : Gl X "enumerate") (hm : X.mg "enumerate" = none) (ha : PA X [e] ta) (hs : starEach [e] X.env = [(false, eval e X.env)] := by rfl) :
    PI X (.Tuple elts kk tpos) (.Call (.Name "enumerate" p) [e] [] pos) (iEnumS ta) := by
  refine ⟨fun pins s σ H R I h => ?_⟩
  refine Call_ (ld_blt I hg hm boot_enumerate (PyProof.Rows.callWith_type1 (thn (ha.run pos pins s σ H _ I h) fun us s1 ⟨vs, H1, I1, r1, q1⟩ => ?_) hs rfl))
  obtain ⟨z, ex, q⟩ := q1
  subst ex
  cases r1 with
  | cons r rr =>
    cases rr
    obtain ⟨t, rfl⟩ := r
    refine call_enumerate_str fun h' he hit hsz hk => wpAny_pyIter_enum he ?_
    have I2 : L2.Inv X pins σ H1 { s1 with heap := h' } := I1.kept (t' := s1.toks) hk
    refine ⟨s1.heap.objs.size + 1, [s1.heap.objs.size + 1, s1.heap.objs.size], _, _, H1, rfl, I2, turn_enumS (Nat.succ_ne_self _), ⟨⟨.none, he⟩, ⟨t, hit⟩⟩, fun b hb => ?_, q⟩
    have e' : b = s1.heap.objs.size + 1 ∨ b = s1.heap.objs.size := by simpa using hb
    have hle : s1.heap.objs.size ≤ b := by
      rcases e' with z | z
      · rw [z]; exact Nat.le_add_right _ _
      · rw [z]; exact Nat.le_refl _
    exact I1.fpOk hle (I1.hok.fresh hle)
theorem walk_enumS {z : Str} : Walk (ItE z) z.cps.size (fun _ => True) (YPair (fun i => some (.int (i : Nat))) (fun i => (z.cps[i]?).map fun c => .str ⟨#[c]⟩)) := by
  refine ⟨fun i _ hi _ => hi, fun _ _ => rfl, fun i H v H' _ q y => ?_⟩
  obtain ⟨T, c, h1, h2, h3, h4⟩ := y
  exact ⟨T, _, _, h1, h2, h3, rfl, by show Option.map _ z.cps[i]? = _; rw [h4]; rfl⟩
end Nt

namespace Nt
open PySem PySem.Spec PyProof.Rows L2
abbrev Ex (H H' : Hp) : Prop := ∀ a o, H a = some o → H' a = some o
theorem Ex.rfl' {H : Hp} : Ex H H := fun _ _ h => h
theorem Ex.tr {H H1 H2 : Hp} (a : Ex H H1) (b : Ex H1 H2) : Ex H H2 := fun x o h => b x o (a x o h)
theorem Ex.none' {H H' : Hp} (e : Ex H H') {p : Addr} (h : H' p = none) : H p = none := by
  cases h1 : H p with
  | none => rfl
  | some o => rw [e p o h1] at h; cases h
theorem Ex.nw {H : Hp} {p : Addr} {o : HO} (h : H p = none) : Ex H (upd H p o) := fun a u e => by rw [upd_ne (ne_of_none e h)]; exact e
theorem Ex.two {H H' : Hp} {p : Addr} {o : HO} (e : Ex H H') : Ex (upd H p o) (upd H' p o) := fun a u h => by
  by_cases q : a = p
  · subst q; rw [upd_same] at h ⊢; exact h
  · rw [upd_ne q] at h ⊢; exact e a u h
/-- a text of codes -/
def tx (s : List Nat) : V := .str ⟨s.toArray⟩
/-! ### data -/
inductive D where
  | non | bl (b : Bool) | int (i : Int) | str (s : List Nat) | tup (xs : List D) | lst (xs : List D) | bag | scr (K : PySem.W.Frag) (ns : List Int) | dic (kd : List (Key × D)) | obj (C : Addr) | ins (C : Addr) (fs : List (Str × D))
/-- the bag of draws: its cells at c -/
def bagO (b c : Addr) : HO := .ext fun h => ∃ (i r m n : Int) (its : List Value) (nn : Nat), Vals [.ref c, .int i, .int r, .int m, .int n] its ∧ h.get? b = some { cls := .type "list", data := .seq its.toArray nn } ∧ 0 ≤ i ∧ 0 ≤ r ∧ 0 ≤ m ∧ m < 2147483648
mutual
inductive Rep (H : Hp) : D → V → Prop where
  | non : Rep H .non .non
  | bl (b : Bool) : Rep H (.bl b) (.bl b)
  | int (i : Int) : Rep H (.int i) (.int i)
  | str (s : List Nat) : Rep H (.str s) (tx s)
  | tup {ds : List D} {a : Addr} {ws : List V} : H a = some (.tup ws) → Reps H ds ws → Rep H (.tup ds) (.ref a)
  | lst {ds : List D} {a : Addr} {ws : List V} : H a = some (.lst ws) → Reps H ds ws → Rep H (.lst ds) (.ref a)
  | bag {b c : Addr} {ns : List Int} : H b = some (bagO b c) → H c = some (.lst (ns.map V.int)) → ns.length ≤ 63 → Rep H .bag (.ref b)
  | scr {K : PySem.W.Frag} {a : Addr} {ns : List Int} : SqL K H a (ns.map V.int) → Rep H (.scr K ns) (.ref a)
  | dic {kd : List (Key × D)} {a : Addr} {kvs : List (Key × V)} : H a = some (.dK kvs) → RepK H kd kvs → Rep H (.dic kd) (.ref a)
  | obj {C a d : Addr} {fs : List (Str × V)} : H a = some (exo a C (some d)) → H d = some (exd d fs) → Rep H (.obj C) (.ref a)
  | ins {C a dx : Addr} {fs : List (Str × D)} {vfs : List (Str × V)} : H a = some (.ins C dx vfs) → H dx = some (.own a) → RepF H fs vfs → Rep H (.ins C fs) (.ref a)
inductive Reps (H : Hp) : List D → List V → Prop where
  | nil : Reps H [] []
  | cons {d : D} {v : V} {ds : List D} {vs : List V} : Rep H d v → Reps H ds vs → Reps H (d :: ds) (v :: vs)
inductive RepK (H : Hp) : List (Key × D) → List (Key × V) → Prop where
  | nil : RepK H [] []
  | cons {k : Key} {d : D} {v : V} {kd : List (Key × D)} {kvs : List (Key × V)} : Rep H d v → RepK H kd kvs → RepK H ((k, d) :: kd) ((k, v) :: kvs)
inductive RepF (H : Hp) : List (Str × D) → List (Str × V) → Prop where
  | nil : RepF H [] []
  | cons {f : Str} {d : D} {v : V} {fs : List (Str × D)} {vfs : List (Str × V)} : Rep H d v → RepF H fs vfs → RepF H ((f, d) :: fs) ((f, v) :: vfs)
end
mutual
theorem Rep.mono {H H' : Hp} (e : Ex H H') : ∀ {d v}, Rep H d v → Rep H' d v
  | _, _, .non => .non
  | _, _, .bl b => .bl b
  | _, _, .int i => .int i
  | _, _, .str s => .str s
  | _, _, .tup h r => .tup (e _ _ h) (Reps.mono e r)
  | _, _, .lst h r => .lst (e _ _ h) (Reps.mono e r)
  | _, _, .bag h c l => .bag (e _ _ h) (e _ _ c) l
  | _, _, .scr h => .scr (Evl.ex_l e h)
  | _, _, .dic h r => .dic (e _ _ h) (RepK.mono e r)
  | _, _, .obj h g => .obj (e _ _ h) (e _ _ g)
  | _, _, .ins h g r => .ins (e _ _ h) (e _ _ g) (RepF.mono e r)
theorem Reps.mono {H H' : Hp} (e : Ex H H') : ∀ {ds vs}, Reps H ds vs → Reps H' ds vs
  | _, _, .nil => .nil
  | _, _, .cons h r => .cons (h.mono e) (r.mono e)
theorem RepK.mono {H H' : Hp} (e : Ex H H') : ∀ {kd kvs}, RepK H kd kvs → RepK H' kd kvs
  | _, _, .nil => .nil
  | _, _, .cons h r => .cons (Rep.mono e h) (RepK.mono e r)
theorem RepF.mono {H H' : Hp} (e : Ex H H') : ∀ {fs vfs}, RepF H fs vfs → RepF H' fs vfs
  | _, _, .nil => .nil
  | _, _, .cons h r => .cons (Rep.mono e h) (RepF.mono e r)
end
theorem Reps.len {H : Hp} : ∀ {ds : List D} {vs : List V}, Reps H ds vs → vs.length = ds.length
  | _, _, .nil => rfl
  | _, _, .cons _ r => by rw [List.length_cons, List.length_cons, r.len]
theorem Reps.get {H : Hp} : ∀ {ds : List D} {vs : List V} {i : Nat} {d : D}, Reps H ds vs → ds[i]? = some d → ∃ v, vs[i]? = some v ∧ Rep H d v
  | _, _, 0, _, .cons h _, e => by cases e; exact ⟨_, rfl, h⟩
  | _, _, i + 1, _, .cons _ r, e => by
    obtain ⟨v, q, h⟩ := r.get (i := i) e
    exact ⟨v, q, h⟩
  | _, _, 0, _, .nil, e => by cases e
  | _, _, i + 1, _, .nil, e => by cases e
theorem Reps.at {H : Hp} : ∀ {ds : List D} {vs : List V} {i : Nat} {v : V}, Reps H ds vs → vs[i]? = some v → ∃ d, ds[i]? = some d ∧ Rep H d v
  | _, _, 0, _, .cons h _, e => by cases e; exact ⟨_, rfl, h⟩
  | _, _, i + 1, _, .cons _ r, e => by
    obtain ⟨d, q, h⟩ := r.at (i := i) e
    exact ⟨d, q, h⟩
  | _, _, 0, _, .nil, e => by cases e
  | _, _, i + 1, _, .nil, e => by cases e
theorem Reps.app {H : Hp} : ∀ {ds es : List D} {vs ws : List V}, Reps H ds vs → Reps H es ws → Reps H (ds ++ es) (vs ++ ws)
  | _, _, _, _, .nil, r => r
  | _, _, _, _, .cons h q, r => .cons h (q.app r)
theorem Reps.drop {H : Hp} : ∀ {ds : List D} {vs : List V} (n : Nat), Reps H ds vs → Reps H (ds.drop n) (vs.drop n)
  | _, _, 0, r => r
  | _, _, n + 1, .nil => .nil
  | _, _, n + 1, .cons _ r => r.drop n
theorem Reps.take {H : Hp} : ∀ {ds : List D} {vs : List V} (n : Nat), Reps H ds vs → Reps H (ds.take n) (vs.take n)
  | _, _, 0, _ => .nil
  | _, _, n + 1, .nil => .nil
  | _, _, n + 1, .cons h r => .cons h (r.take n)
theorem Reps.rev {H : Hp} : ∀ {ds : List D} {vs : List V}, Reps H ds vs → Reps H ds.reverse vs.reverse
  | _, _, .nil => .nil
  | _, _, .cons h r => by
    rw [List.reverse_cons, List.reverse_cons]
    exact r.rev.app (.cons h .nil)
/-- data that need no heap -/
def D.flat : D → Bool
  | .non | .bl _ | .int _ | .str _ => true
  | _ => false
theorem Rep.flat {H H' : Hp} {d : D} {v : V} (f : d.flat = true) (r : Rep H d v) : Rep H' d v := by
  cases r with
  | non => exact .non
  | bl b => exact .bl b
  | int i => exact .int i
  | str s => exact .str s
  | tup _ _ => cases f
  | lst _ _ => cases f
  | bag _ _ _ => cases f
  | scr _ => cases f
  | dic _ _ => cases f
  | obj _ _ => cases f
  | ins _ _ _ => cases f
/-! ### worlds: a heap, and the part of it that data may lie in -/
structure Wd where
  b : Hp
  h : Hp
  le : Ex b h
structure Grow (W W' : Wd) : Prop where
  b : Ex W.b W'.b
  h : Ex W.h W'.h
  nw : ∀ a, W.b a = none → W.h a ≠ none → W'.b a = none
theorem Grow.refl (W : Wd) : Grow W W := ⟨Ex.rfl', Ex.rfl', fun _ h _ => h⟩
theorem Grow.trans {W W1 W2 : Wd} (x : Grow W W1) (y : Grow W1 W2) : Grow W W2 :=
  ⟨x.b.tr y.b, x.h.tr y.h, fun a h1 h2 => y.nw a (x.nw a h1 h2) fun z => h2 (x.h.none' z)⟩
/-- a new object that is data -/
def Wd.put (W : Wd) (p : Addr) (o : HO) : Wd := ⟨upd W.b p o, upd W.h p o, W.le.two⟩
theorem Grow.put {W : Wd} {p : Addr} {o : HO} (h : W.h p = none) : Grow W (W.put p o) :=
  ⟨Ex.nw (W.le.none' h), Ex.nw h, fun a h1 h2 => by
    show upd W.b p o a = none
    rw [upd_ne (fun e => h2 (by rw [e]; exact h))]; exact h1⟩
/-- a new object that is none of the data -/
def Wd.add (W : Wd) (p : Addr) (o : HO) (h : W.h p = none) : Wd := ⟨W.b, upd W.h p o, W.le.tr (Ex.nw h)⟩
theorem Grow.add {W : Wd} {p : Addr} {o : HO} (h : W.h p = none) : Grow W (W.add p o h) := ⟨Ex.rfl', Ex.nw h, fun _ h1 _ => h1⟩
/-! ### what slots hold -/
inductive En where
  | un
  | dat (d : D)
  | own (ds : List D)
  | dct (kd : List (Key × D))
  | inst (x C : Addr) (fs : List (Str × D))
/-- it holds an object of its own -/
def En.adr : En → Bool
  | .own _ | .dct _ | .inst _ _ _ => true
  | _ => false
/-- a value that has come: data, or a new list that nobody else holds -/
def RepV (W W' : Wd) : En → V → Prop
  | .un, _ => False
  | .dat d, v => Rep W'.b d v
  | .own ds, v => ∃ l vs, v = .ref l ∧ W'.h l = some (.lst vs) ∧ W'.b l = none ∧ W.h l = none ∧ Reps W'.b ds vs
  | .inst x C fs, v => ∃ dx vfs, v = .ref x ∧ W'.h x = some (.ins C dx vfs) ∧ W'.h dx = some (.own x) ∧ W'.b x = none ∧ W'.b dx = none ∧ W.h x = none ∧ W.h dx = none ∧ RepF W'.b fs vfs
  | .dct kd, v => ∃ l kvs, v = .ref l ∧ W'.h l = some (.dK kvs) ∧ W'.b l = none ∧ W.h l = none ∧ RepK W'.b kd kvs
theorem RepV.adr {W W' : Wd} {e : En} {v : V} (r : RepV W W' e v) (h : e.adr = true) : ∃ l, v = .ref l ∧ W'.h l ≠ none ∧ W'.b l = none ∧ W.h l = none := by
  cases e with
  | un => cases h
  | dat d => cases h
  | own ds =>
    obtain ⟨l, vs, e, h1, h2, h3, _⟩ := r
    exact ⟨l, e, (by rw [h1]; exact fun z => (nomatch z)), h2, h3⟩
  | dct ds =>
    obtain ⟨l, vs, e, h1, h2, h3, _⟩ := r
    exact ⟨l, e, (by rw [h1]; exact fun z => (nomatch z)), h2, h3⟩
  | inst x C fs =>
    obtain ⟨dx, vfs, e, h1, h1', h2, _, h3, _⟩ := r
    exact ⟨x, e, (by rw [h1]; exact fun z => (nomatch z)), h2, h3⟩
theorem RepV.mono {W W1 W2 : Wd} {e : En} {v : V} (r : RepV W W1 e v) (g : Grow W1 W2) : RepV W W2 e v := by
  cases e with
  | un => exact r
  | dat d => exact Rep.mono g.b r
  | own ds =>
    obtain ⟨l, vs, e, h1, h2, h3, h4⟩ := r
    exact ⟨l, vs, e, g.h _ _ h1, g.nw l h2 (by rw [h1]; exact fun z => nomatch z), h3, h4.mono g.b⟩
  | dct ds =>
    obtain ⟨l, vs, e, h1, h2, h3, h4⟩ := r
    exact ⟨l, vs, e, g.h _ _ h1, g.nw l h2 (by rw [h1]; exact fun z => nomatch z), h3, h4.mono g.b⟩
  | inst x C fs =>
    obtain ⟨dx, vfs, e, h1, h1', h2, h2', h3, h3', h4⟩ := r
    exact ⟨dx, vfs, e, g.h _ _ h1, g.h _ _ h1', g.nw x h2 (by rw [h1]; exact fun z => nomatch z), g.nw dx h2' (by rw [h1']; exact fun z => nomatch z), h3, h3', h4.mono g.b⟩
theorem RepV.back {W0 W W1 : Wd} {e : En} {v : V} (r : RepV W W1 e v) (g : Ex W0.h W.h) : RepV W0 W1 e v := by
  cases e with
  | un => exact r
  | dat d => exact r
  | own ds =>
    obtain ⟨l, vs, e, h1, h2, h3, h4⟩ := r
    exact ⟨l, vs, e, h1, h2, g.none' h3, h4⟩
  | dct ds =>
    obtain ⟨l, vs, e, h1, h2, h3, h4⟩ := r
    exact ⟨l, vs, e, h1, h2, g.none' h3, h4⟩
  | inst x C fs =>
    obtain ⟨dx, vfs, e, h1, h1', h2, h2', h3, h3', h4⟩ := r
    exact ⟨dx, vfs, e, h1, h1', h2, h2', g.none' h3, g.none' h3', h4⟩
/-- data that come of it -/
def En.frz : En → Option D
  | .un => none
  | .inst _ C fs => some (.ins C fs)
  | .dat d => some d
  | .own ds => some (.lst ds)
  | .dct kd => some (.dic kd)
theorem RepV.frz {W W1 : Wd} {e : En} {v : V} {d : D} (g : Grow W W1) (r : RepV W W1 e v) (h : e.frz = some d) : ∃ W2 : Wd, W2.h = W1.h ∧ Grow W W2 ∧ Ex W1.b W2.b ∧ Rep W2.b d v := by
  cases e with
  | un => exact absurd h (by simp [En.frz])
  | dat d' => cases h; exact ⟨W1, rfl, g, Ex.rfl', r⟩
  | own ds =>
    cases h
    obtain ⟨l, vs, rfl, h1, h2, h3, h4⟩ := r
    refine ⟨⟨upd W1.b l (.lst vs), W1.h, fun a o e => ?_⟩, rfl, ⟨g.b.tr (Ex.nw h2), g.h, fun a q1 q2 => ?_⟩, Ex.nw h2, .lst upd_same (h4.mono (Ex.nw h2))⟩
    · by_cases q : a = l
      · subst q; rw [upd_same] at e; cases e; exact h1
      · rw [upd_ne q] at e; exact W1.le _ _ e
    · show upd W1.b l (.lst vs) a = none
      rw [upd_ne (fun e => q2 (by rw [e]; exact h3))]; exact g.nw a q1 q2
  | dct ds =>
    cases h
    obtain ⟨l, vs, rfl, h1, h2, h3, h4⟩ := r
    refine ⟨⟨upd W1.b l (.dK vs), W1.h, fun a o e => ?_⟩, rfl, ⟨g.b.tr (Ex.nw h2), g.h, fun a q1 q2 => ?_⟩, Ex.nw h2, .dic upd_same (h4.mono (Ex.nw h2))⟩
    · by_cases q : a = l
      · subst q; rw [upd_same] at e; cases e; exact h1
      · rw [upd_ne q] at e; exact W1.le _ _ e
    · show upd W1.b l (.dK vs) a = none
      rw [upd_ne (fun e => q2 (by rw [e]; exact h3))]; exact g.nw a q1 q2
  | inst x C fs =>
    cases h
    obtain ⟨dx, vfs, rfl, h1, h1', h2, h2', h3, h3', h4⟩ := r
    have hne : dx ≠ x := fun z => by rw [z, h1] at h1'; cases h1'
    have ex : Ex W1.b (upd (upd W1.b dx (.own x)) x (.ins C dx vfs)) := (Ex.nw h2').tr (Ex.nw (by rw [upd_ne (Ne.symm hne)]; exact h2))
    refine ⟨⟨upd (upd W1.b dx (.own x)) x (.ins C dx vfs), W1.h, fun a o e => ?_⟩, rfl, ⟨g.b.tr ex, g.h, fun a q1 q2 => ?_⟩, ex, .ins upd_same (by show upd (upd W1.b dx (.own x)) x (.ins C dx vfs) dx = _; rw [upd_ne hne, upd_same]) (h4.mono ex)⟩
    · by_cases q : a = x
      · subst q; rw [upd_same] at e; cases e; exact h1
      · rw [upd_ne q] at e
        by_cases q2 : a = dx
        · subst q2; rw [upd_same] at e; cases e; exact h1'
        · rw [upd_ne q2] at e; exact W1.le _ _ e
    · show upd (upd W1.b dx (.own x)) x (.ins C dx vfs) a = none
      rw [upd_ne (fun e => q2 (by rw [e]; exact h3)), upd_ne (fun e => q2 (by rw [e]; exact h3'))]; exact g.nw a q1 q2
structure Env (W0 W : Wd) (σ : L2.St) (ρ : List En) : Prop where
  g : Grow W0 W
  len : σ.length = ρ.length
  ent : ∀ (i : Nat) (e : En), ρ[i]? = some e → e ≠ .un → ∃ v, σ[i]? = some (some v) ∧ RepV W0 W e v
  apart : ∀ (i j : Nat) (e f : En) l, ρ[i]? = some e → ρ[j]? = some f → e.adr = true → f.adr = true → σ[i]? = some (some (.ref l)) → σ[j]? = some (some (.ref l)) → i = j
theorem Env.grow {W0 W W' : Wd} {σ : L2.St} {ρ : List En} (E : Env W0 W σ ρ) (g : Grow W W') : Env W0 W' σ ρ :=
  ⟨E.g.trans g, E.len, fun i e h n => let ⟨v, a, r⟩ := E.ent i e h n; ⟨v, a, r.mono g⟩, E.apart⟩
theorem set_get {α : Type} {l : List α} {i j : Nat} {x y : α} (h : (l.set i x)[j]? = some y) : (j = i ∧ y = x ∧ i < l.length) ∨ (j ≠ i ∧ l[j]? = some y) := by
  by_cases q : j = i
  · subst q
    have hl : j < l.length := by
      have := (List.getElem?_eq_some_iff.mp h).1
      simpa using this
    rw [List.getElem?_set_self hl] at h
    exact .inl ⟨rfl, (Option.some.inj h).symm, hl⟩
  · rw [List.getElem?_set_ne (fun e => q e.symm)] at h
    exact .inr ⟨q, h⟩
/-- a slot is given a value that has come -/
theorem Env.set {W0 W W' : Wd} {σ : L2.St} {ρ : List En} (E : Env W0 W σ ρ) (g : Grow W W') {e : En} {v : V} (r : RepV W W' e v) (i : Nat) : Env W0 W' (σ.set i (some v)) (ρ.set i e) := by
  have E' := E.grow g
  refine ⟨E'.g, by rw [List.length_set, List.length_set, E.len], fun j e' h n => ?_, fun j k e1 e2 l h1 h2 t1 t2 h3 h4 => ?_⟩
  · rcases set_get h with ⟨rfl, rfl, hl⟩ | ⟨hne, h⟩
    · exact ⟨v, by rw [List.getElem?_set_self (by rw [E.len]; exact hl)], r.back E.g.h⟩
    · obtain ⟨v', a, b⟩ := E'.ent j e' h n
      exact ⟨v', by rw [List.getElem?_set_ne (fun q => hne q.symm)]; exact a, b⟩
  · have key : ∀ (m : Nat) (f : En), m ≠ i → ρ[m]? = some f → f.adr = true → σ[m]? = some (some (.ref l)) → v = .ref l → e.adr = true → False := by
      intro m f hm a t b c he
      obtain ⟨l1, e1, _, _, z⟩ := r.adr he
      rw [c] at e1
      have : l = l1 := V.ref.inj e1
      subst this
      obtain ⟨v', q1, q2⟩ := E.ent m _ a (fun z => by rw [z] at t; cases t)
      rw [b] at q1
      cases q1
      obtain ⟨l2, e2, w1, _⟩ := q2.adr t
      have : l = l2 := V.ref.inj e2
      subst this
      exact w1 z
    rcases set_get h1 with ⟨q1, q, hl⟩ | ⟨n1, m1⟩
    · rcases set_get h2 with ⟨q2, _, _⟩ | ⟨n2, m2⟩
      · rw [q1, q2]
      · rw [q1, List.getElem?_set_self (by rw [E.len]; exact hl)] at h3
        rw [List.getElem?_set_ne (fun q => n2 q.symm)] at h4
        exact (key k e2 n2 m2 t2 h4 (Option.some.inj (Option.some.inj h3)) (by rw [← q]; exact t1)).elim
    · rcases set_get h2 with ⟨q2, q, hl⟩ | ⟨n2, m2⟩
      · rw [q2, List.getElem?_set_self (by rw [E.len]; exact hl)] at h4
        rw [List.getElem?_set_ne (fun q => n1 q.symm)] at h3
        exact (key j e1 n1 m1 t1 h3 (Option.some.inj (Option.some.inj h4)) (by rw [← q]; exact t2)).elim
      · rw [List.getElem?_set_ne (fun q => n1 q.symm)] at h3
        rw [List.getElem?_set_ne (fun q => n2 q.symm)] at h4
        exact E.apart j k e1 e2 l m1 m2 t1 t2 h3 h4
/-- a slot is forgotten -/
theorem Env.drop {W0 W : Wd} {σ : L2.St} {ρ : List En} (E : Env W0 W σ ρ) (i : Nat) (o : Option V) : Env W0 W (σ.set i o) (ρ.set i .un) := by
  refine ⟨E.g, by rw [List.length_set, List.length_set, E.len], fun j e' h n => ?_, fun j k e1 e2 l h1 h2 t1 t2 h3 h4 => ?_⟩
  · rcases set_get h with ⟨rfl, rfl, hl⟩ | ⟨hne, h⟩
    · exact absurd rfl n
    · obtain ⟨v', a, b⟩ := E.ent j e' h n
      exact ⟨v', by rw [List.getElem?_set_ne (fun q => hne q.symm)]; exact a, b⟩
  · rcases set_get h1 with ⟨rfl, q, hl⟩ | ⟨n1, h1⟩
    · rw [q] at t1; cases t1
    · rcases set_get h2 with ⟨rfl, q, hl⟩ | ⟨n2, h2⟩
      · rw [q] at t2; cases t2
      · rw [List.getElem?_set_ne (fun q => n1 q.symm)] at h3
        rw [List.getElem?_set_ne (fun q => n2 q.symm)] at h4
        exact E.apart j k e1 e2 l h1 h2 t1 t2 h3 h4
/-- an own list is data from now on -/
theorem Env.freeze {W0 W : Wd} {σ : L2.St} {ρ : List En} (E : Env W0 W σ ρ) {i : Nat} {ds : List D} (h : ρ[i]? = some (.own ds)) : ∃ W' : Wd, W'.h = W.h ∧ Ex W.b W'.b ∧ Env W0 W' σ (ρ.set i (.dat (.lst ds))) := by
  obtain ⟨v, hv, l, vs, rfl, h1, h2, h3, h4⟩ := E.ent i _ h (fun z => nomatch z)
  have hi := (List.getElem?_eq_some_iff.mp h).1
  refine ⟨⟨upd W.b l (.lst vs), W.h, fun a o e => ?_⟩, rfl, Ex.nw h2, ⟨⟨E.g.b.tr (Ex.nw h2), E.g.h, fun a q1 q2 => ?_⟩, by rw [List.length_set, E.len], fun j e' hj n => ?_, fun j k e1 e2 l' a1 a2 t1 t2 a3 a4 => ?_⟩⟩
  · by_cases q : a = l
    · subst q; rw [upd_same] at e; cases e; exact h1
    · rw [upd_ne q] at e; exact W.le _ _ e
  · show upd W.b l (.lst vs) a = none
    rw [upd_ne (fun e => q2 (by rw [e]; exact h3))]; exact E.g.nw a q1 q2
  · rcases set_get hj with ⟨rfl, rfl, _⟩ | ⟨hne, hj⟩
    · exact ⟨_, hv, .lst upd_same (h4.mono (Ex.nw h2))⟩
    · obtain ⟨v', a, b⟩ := E.ent j e' hj n
      refine ⟨v', a, ?_⟩
      cases e' with
      | un => exact absurd rfl n
      | dat d => exact Rep.mono (Ex.nw h2) b
      | own es =>
        obtain ⟨l2, ws, rfl, w1, w2, w3, w4⟩ := b
        refine ⟨l2, ws, rfl, w1, ?_, w3, w4.mono (Ex.nw h2)⟩
        show upd W.b l (.lst vs) l2 = none
        rw [upd_ne (fun z => hne (E.apart j i _ _ l hj h rfl rfl (by rw [← z]; exact a) hv))]
        exact w2
      | dct es =>
        obtain ⟨l2, ws, rfl, w1, w2, w3, w4⟩ := b
        refine ⟨l2, ws, rfl, w1, ?_, w3, w4.mono (Ex.nw h2)⟩
        show upd W.b l (.lst vs) l2 = none
        rw [upd_ne (fun z => hne (E.apart j i _ _ l hj h rfl rfl (by rw [← z]; exact a) hv))]
        exact w2
      | inst x C fs =>
        obtain ⟨dx, vfs, rfl, w1, w1', w2, w2', w3, w3', w4⟩ := b
        refine ⟨dx, vfs, rfl, w1, w1', ?_, ?_, w3, w3', w4.mono (Ex.nw h2)⟩
        · show upd W.b l (.lst vs) x = none
          rw [upd_ne (fun z => hne (E.apart j i _ _ l hj h rfl rfl (by rw [← z]; exact a) hv))]
          exact w2
        · show upd W.b l (.lst vs) dx = none
          rw [upd_ne (fun z => by rw [z, h1] at w1'; cases w1')]
          exact w2'
  · rcases set_get a1 with ⟨rfl, q, _⟩ | ⟨n1, a1⟩
    · rw [q] at t1; cases t1
    · rcases set_get a2 with ⟨rfl, q, _⟩ | ⟨n2, a2⟩
      · rw [q] at t2; cases t2
      · exact E.apart j k e1 e2 l' a1 a2 t1 t2 a3 a4
end Nt

namespace Nt
open PySem PySem.Spec PyProof.Rows L2
/-! ### what an expression comes to, from slots that are known -/
def EV (te : TE) (ρ : List En) (P : En → Prop) : Prop := ∀ W0 W σ, Env W0 W σ ρ → ∀ Q : VK, (∀ v e W', Grow W W' → RepV W W' e v → P e → Q v W'.h) → te σ W.h Q
def ED (te : TE) (ρ : List En) (P : D → Prop) : Prop := ∀ W0 W σ, Env W0 W σ ρ → ∀ Q : VK, (∀ v d W', Grow W W' → Rep W'.b d v → P d → Q v W'.h) → te σ W.h Q
def ET (tt : TT) (ρ : List En) (P : Bool → Prop) : Prop := ∀ W0 W σ, Env W0 W σ ρ → ∀ Q : Bool → Hp → Prop, (∀ b W', Grow W W' → P b → Q b W'.h) → tt σ W.h Q
def EA (ta : TA) (ρ : List En) (P : List D → Prop) : Prop := ∀ W0 W σ, Env W0 W σ ρ → ∀ Q : List V → Hp → Prop, (∀ vs ds W', Grow W W' → Reps W'.b ds vs → P ds → Q vs W'.h) → ta σ W.h Q
def EO (to : TO) (ρ : List En) (P : Option Int → Prop) : Prop := ∀ W0 W σ, Env W0 W σ ρ → ∀ Q : Option Int → Hp → Prop, (∀ o W', Grow W W' → P o → Q o W'.h) → to σ W.h Q
/-- what an operation, a call come to, by values -/
def OD (r : R2) (x y : D) (P : En → Prop) : Prop := ∀ (W : Wd) v w, Rep W.b x v → Rep W.b y w → ∀ Q : VK, (∀ u e W', Grow W W' → RepV W W' e u → P e → Q u W'.h) → r v w W.h Q
def UD (r : V → Hp → VK → Prop) (x : D) (P : En → Prop) : Prop := ∀ (W : Wd) v, Rep W.b x v → ∀ Q : VK, (∀ u e W', Grow W W' → RepV W W' e u → P e → Q u W'.h) → r v W.h Q
def CD (r : List V → Hp → VK → Prop) (ds : List D) (P : En → Prop) : Prop := ∀ (W : Wd) vs, Reps W.b ds vs → ∀ Q : VK, (∀ u e W', Grow W W' → RepV W W' e u → P e → Q u W'.h) → r vs W.h Q
def MD (r : V → List V → Hp → VK → Prop) (x : D) (ds : List D) (P : En → Prop) : Prop := ∀ (W : Wd) v vs, Rep W.b x v → Reps W.b ds vs → ∀ Q : VK, (∀ u e W', Grow W W' → RepV W W' e u → P e → Q u W'.h) → r v vs W.h Q
section
variable {K : PySem.W.Frag} {ta tb te : TE} {tt tu : TT} {ar : TA} {ρ : List En} {P P' PA PB : D → Prop} {R R' : En → Prop} {b : Bool}
theorem EV.imp (h : EV te ρ R) (k : ∀ e, R e → R' e) : EV te ρ R' := fun W0 W σ E Q q => h W0 W σ E Q fun v e W' g r p => q v e W' g r (k e p)
theorem ED.imp (h : ED te ρ P) (k : ∀ d, P d → P' d) : ED te ρ P' := fun W0 W σ E Q q => h W0 W σ E Q fun v e W' g r p => q v e W' g r (k e p)
theorem ED.is {x y : D} (h : ED te ρ (· = x)) (k : x = y) : ED te ρ (· = y) := k ▸ h
theorem ET.imp {T T' : Bool → Prop} (h : ET tt ρ T) (k : ∀ e, T e → T' e) : ET tt ρ T' := fun W0 W σ E Q q => h W0 W σ E Q fun e W' g p => q e W' g (k e p)
theorem ET.is {a c : Bool} (h : ET tt ρ (· = a)) (k : a = c) : ET tt ρ (· = c) := k ▸ h
theorem EA.imp {T T' : List D → Prop} (h : EA ar ρ T) (k : ∀ e, T e → T' e) : EA ar ρ T' := fun W0 W σ E Q q => h W0 W σ E Q fun v e W' g r p => q v e W' g r (k e p)
/-- data come to stay -/
theorem EV.ed (h : EV te ρ R) (k : ∀ e, R e → ∃ d, e.frz = some d ∧ P d) : ED te ρ P := fun W0 W σ E Q q => h W0 W σ E Q fun v e W' g r p => by
  obtain ⟨d, hd, pd⟩ := k e p
  obtain ⟨W2, h2, g2, _, r2⟩ := r.frz g hd
  rw [← h2]
  exact q v d W2 g2 r2 pd
theorem ED.ev (h : ED te ρ P) : EV te ρ (fun e => ∃ d, e = .dat d ∧ P d) := fun W0 W σ E Q q => h W0 W σ E Q fun v d W' g r p => q v (.dat d) W' g r ⟨d, rfl, p⟩
theorem EV.d1 {d : D} (h : EV te ρ (· = .dat d)) : ED te ρ (· = d) := h.ed fun e q => ⟨d, by rw [q]; rfl, rfl⟩
theorem EV.o1 {ds : List D} (h : EV te ρ (· = .own ds)) : ED te ρ (· = .lst ds) := h.ed fun e q => ⟨.lst ds, by rw [q]; rfl, rfl⟩
theorem e_var {i : Nat} {d : D} (h : ρ[i]? = some (.dat d)) : ED (tVar i) ρ (· = d) := fun W0 W σ E Q q => by
  obtain ⟨v, a, r⟩ := E.ent i _ h (fun z => nomatch z)
  exact ⟨v, a, q v d W (Grow.refl W) r rfl⟩
theorem e_c {v : V} {d : D} (h : ∀ H, Rep H d v) : ED (tC v) ρ (· = d) := fun W0 W σ E Q q => q v d W (Grow.refl W) (h _) rfl
theorem e_int {i : Int} : ED (tC (.int i)) ρ (· = .int i) := e_c fun _ => .int i
theorem e_bl {b : Bool} : ED (tC (.bl b)) ρ (· = .bl b) := e_c fun _ => .bl b
theorem e_non : ED (tC .non) ρ (· = .non) := e_c fun _ => .non
theorem tx_eq (z : Str) : V.str z = tx z.cps.toList := by
  unfold tx
  obtain ⟨c⟩ := z
  simp
theorem rep_str {H : Hp} (z : Str) : Rep H (.str z.cps.toList) (.str z) := by
  rw [tx_eq]
  exact .str _
theorem e_strz {z : Str} : ED (tC (.str z)) ρ (· = .str z.cps.toList) := e_c fun _ => rep_str z
theorem e_str {z : Str} {s : List Nat} (h : z.cps.toList = s) : ED (tC (.str z)) ρ (· = .str s) := h ▸ e_strz
theorem e_op {r : R2} (ha : ED ta ρ PA) (hb : ED tb ρ PB) (hr : ∀ x y, PA x → PB y → OD r x y R) : EV (tOp r ta tb) ρ R := fun W0 W σ E Q q =>
  ha W0 W σ E _ fun v x W1 g1 r1 p1 => hb W0 W1 σ (E.grow g1) _ fun w y W2 g2 r2 p2 => hr x y p1 p2 W2 v w (r1.mono g2.b) r2 Q fun u e W3 g3 r3 p3 => q u e W3 ((g1.trans g2).trans g3) (r3.back (g1.trans g2).h) p3
theorem e_op1 {r : R2} {x y : D} (ha : ED ta ρ (· = x)) (hb : ED tb ρ (· = y)) (hr : OD r x y R) : EV (tOp r ta tb) ρ R := e_op ha hb fun _ _ a b => by rw [a, b]; exact hr
theorem e_opd {r : R2} {x y z : D} (ha : ED ta ρ (· = x)) (hb : ED tb ρ (· = y)) (hr : OD r x y (· = .dat z)) : ED (tOp r ta tb) ρ (· = z) := (e_op1 ha hb hr).d1
theorem e_un {r : V → Hp → VK → Prop} {x : D} (ha : ED ta ρ (· = x)) (hr : UD r x R) : EV (tUn r ta) ρ R := fun W0 W σ E Q q =>
  ha W0 W σ E _ fun v x' W1 g1 r1 p1 => hr W1 v (by subst p1; exact r1) Q fun u e W3 g3 r3 p3 => q u e W3 (g1.trans g3) (r3.back g1.h) p3
/-! tests -/
theorem et_val {T : Bool → Prop} (h : ED te ρ (fun d => ∃ b, d = .bl b ∧ T b)) : ET (tB te) ρ T := fun W0 W σ E Q q => h W0 W σ E _ fun v d W' g r ⟨b, e, p⟩ => by
  subst e; cases r; exact ⟨b, rfl, q b W' g p⟩
theorem et_test {T : Bool → Prop} (h : ED te ρ (fun d => ∃ b, d = .bl b ∧ T b)) : ET (tTest te) ρ T := fun W0 W σ E Q q => h W0 W σ E _ fun v d W' g r ⟨b, e, p⟩ => by
  subst e; cases r; exact ⟨b, rfl, q b W' g p⟩
theorem et_v1 {a : Bool} (h : ED te ρ (· = .bl a)) : ET (tB te) ρ (· = a) := et_val (h.imp fun d e => ⟨a, e, rfl⟩)
theorem et_t1 {a : Bool} (h : ED te ρ (· = .bl a)) : ET (tTest te) ρ (· = a) := et_test (h.imp fun d e => ⟨a, e, rfl⟩)
theorem et_and {T1 T : Bool → Prop} (h : ET tt ρ T1) (h1 : T1 true → ET tu ρ T) (h2 : T1 false → T false) : ET (tAnd tt tu) ρ T := fun W0 W σ E Q q => h W0 W σ E _ fun b W' g p => by
  cases b with
  | true => exact iteT (h1 p W0 W' σ (E.grow g) Q fun b W2 g2 p2 => q b W2 (g.trans g2) p2)
  | false => exact iteF (q false W' g (h2 p))
theorem et_or {T1 T : Bool → Prop} (h : ET tt ρ T1) (h1 : T1 false → ET tu ρ T) (h2 : T1 true → T true) : ET (tOr tt tu) ρ T := fun W0 W σ E Q q => h W0 W σ E _ fun b W' g p => by
  cases b with
  | false => exact iteF (h1 p W0 W' σ (E.grow g) Q fun b W2 g2 p2 => q b W2 (g.trans g2) p2)
  | true => exact iteT (q true W' g (h2 p))
theorem et_and1 {a c : Bool} (h : ET tt ρ (· = a)) (h1 : a = true → ET tu ρ (· = c)) : ET (tAnd tt tu) ρ (· = (a && c)) :=
  et_and h (fun p => by subst p; exact h1 rfl) (fun p => by subst p; rfl)
theorem et_or1 {a c : Bool} (h : ET tt ρ (· = a)) (h1 : a = false → ET tu ρ (· = c)) : ET (tOr tt tu) ρ (· = (a || c)) :=
  et_or h (fun p => by subst p; exact h1 rfl) (fun p => by subst p; rfl)
theorem et_not {T : Bool → Prop} (h : ET tt ρ fun b => T (!b)) : ET (tNot tt) ρ T := fun W0 W σ E Q q => h W0 W σ E _ fun b W' g p => q (!b) W' g p
theorem et_not1 {a : Bool} (h : ET tt ρ (· = a)) : ET (tNot tt) ρ (· = !a) := et_not (h.imp fun e q => by rw [q])
theorem et_yes : ET tYes ρ (· = true) := fun W0 W σ E Q q => q true W (Grow.refl W) rfl
theorem e_and {a c : Bool} (h : ED ta ρ (· = .bl a)) (h1 : a = true → ED tb ρ (· = .bl c)) : ED (tAndV ta tb) ρ (· = .bl (a && c)) := fun W0 W σ E Q q => h W0 W σ E _ fun v d W' g r p => by
  subst p; cases r
  refine ⟨a, rfl, ?_⟩
  cases a with
  | true => exact iteT (h1 rfl W0 W' σ (E.grow g) Q fun v d W2 g2 r2 p2 => q v d W2 (g.trans g2) r2 p2)
  | false => exact iteF (q _ _ W' g (.bl false) rfl)
theorem e_or {a c : Bool} (h : ED ta ρ (· = .bl a)) (h1 : a = false → ED tb ρ (· = .bl c)) : ED (tOrV ta tb) ρ (· = .bl (a || c)) := fun W0 W σ E Q q => h W0 W σ E _ fun v d W' g r p => by
  subst p; cases r
  refine ⟨a, rfl, ?_⟩
  cases a with
  | false => exact iteF (h1 rfl W0 W' σ (E.grow g) Q fun v d W2 g2 r2 p2 => q v d W2 (g.trans g2) r2 p2)
  | true => exact iteT (q _ _ W' g (.bl true) rfl)
theorem e_not {a : Bool} (h : ED ta ρ (· = .bl a)) : ED (tNotV ta) ρ (· = .bl (!a)) := fun W0 W σ E Q q => h W0 W σ E _ fun v d W' g r p => by
  subst p; cases r
  exact ⟨a, rfl, q _ _ W' g (.bl _) rfl⟩
theorem e_if {T : Bool → Prop} (h : ET tt ρ T) (h1 : T true → EV ta ρ R) (h2 : T false → EV tb ρ R) : EV (tIf tt ta tb) ρ R := fun W0 W σ E Q q => h W0 W σ E _ fun b W' g p => by
  cases b with
  | true => exact iteT (h1 p W0 W' σ (E.grow g) Q fun v e W2 g2 r2 p2 => q v e W2 (g.trans g2) (r2.back g.h) p2)
  | false => exact iteF (h2 p W0 W' σ (E.grow g) Q fun v e W2 g2 r2 p2 => q v e W2 (g.trans g2) (r2.back g.h) p2)
theorem e_ifd {T : Bool → Prop} (h : ET tt ρ T) (h1 : T true → ED ta ρ P) (h2 : T false → ED tb ρ P) : ED (tIf tt ta tb) ρ P :=
  (e_if h (fun p => (h1 p).ev) (fun p => (h2 p).ev)).ed fun e ⟨d, q, p⟩ => ⟨d, by rw [q]; rfl, p⟩
/-! arguments -/
theorem ea_nil : EA tNil ρ (· = []) := fun W0 W σ E Q q => q [] [] W (Grow.refl W) .nil rfl
theorem ea_cons {T T' : List D → Prop} (h : ED ta ρ P) (h1 : ∀ x, P x → EA ar ρ (fun ds => T (x :: ds))) : EA (tCons ta ar) ρ T := fun W0 W σ E Q q =>
  h W0 W σ E _ fun v d W1 g1 r1 p1 => h1 d p1 W0 W1 σ (E.grow g1) _ fun vs ds W2 g2 r2 p2 => q (v :: vs) (d :: ds) W2 (g1.trans g2) (.cons (r1.mono g2.b) r2) p2
theorem ea_c {x : D} {ds : List D} (h : ED ta ρ (· = x)) (h1 : EA ar ρ (· = ds)) : EA (tCons ta ar) ρ (· = x :: ds) :=
  ea_cons (T' := fun _ => True) h fun y e => h1.imp fun z q => by rw [e, q]
theorem ea_1 (h : ED ta ρ P) : EA (tCons ta tNil) ρ (fun ds => ∃ x, ds = [x] ∧ P x) := ea_cons (T' := fun _ => True) h fun y e => ea_nil.imp fun z q => by rw [q]; exact ⟨y, rfl, e⟩
theorem e_cb {r : List V → Hp → VK → Prop} {T : List D → Prop} (h : EA ar ρ T) (hr : ∀ ds, T ds → CD r ds R) : EV (tCB r ar) ρ R := fun W0 W σ E Q q =>
  h W0 W σ E _ fun vs ds W1 g1 r1 p1 => hr ds p1 W1 vs r1 Q fun u e W3 g3 r3 p3 => q u e W3 (g1.trans g3) (r3.back g1.h) p3
theorem e_cb1 {r : List V → Hp → VK → Prop} {ds : List D} (h : EA ar ρ (· = ds)) (hr : CD r ds R) : EV (tCB r ar) ρ R := e_cb h fun _ e => by rw [e]; exact hr
theorem e_tup {T : List D → Prop} (h : EA ar ρ T) (hl : ∀ ds, T ds → ds.length ≤ 100000) : ED (tTup ar) ρ (fun d => ∃ ds, d = .tup ds ∧ T ds) := fun W0 W σ E Q q =>
  h W0 W σ E _ fun vs ds W1 g1 r1 p1 => ⟨Evl.sz_of (by rw [r1.len]; exact hl ds p1), fun p hp => q (.ref p) (.tup ds) (W1.put p (.tup vs)) (g1.trans (Grow.put hp)) (.tup upd_same (r1.mono (Grow.put hp).b)) ⟨ds, rfl, p1⟩⟩
theorem e_tup1 {ds : List D} (h : EA ar ρ (· = ds)) (hl : ds.length ≤ 100000) : ED (tTup ar) ρ (· = .tup ds) := (e_tup h fun _ e => by rw [e]; exact hl).imp fun d ⟨_, e, p⟩ => by rw [e, p]
/-- a new list that has come at p -/
theorem new_own {W W1 : Wd} (g1 : Grow W W1) {p : Addr} {ds : List D} {vs : List V} (hp : W1.h p = none) (r : Reps W1.b ds vs) : Grow W (W1.add p (.lst vs) hp) ∧ RepV W (W1.add p (.lst vs) hp) (.own ds) (.ref p) :=
  ⟨g1.trans (Grow.add hp), p, vs, rfl, upd_same, W1.le.none' hp, g1.h.none' hp, r⟩
theorem e_lst {T : List D → Prop} (h : EA ar ρ T) (hl : ∀ ds, T ds → ds.length ≤ 100000) : EV (tLst ar) ρ (fun e => ∃ ds, e = .own ds ∧ T ds) := fun W0 W σ E Q q =>
  h W0 W σ E _ fun vs ds W1 g1 r1 p1 => ⟨Evl.sz_of (by rw [r1.len]; exact hl ds p1), fun p hp => by
    obtain ⟨a, c⟩ := new_own g1 hp r1
    exact q (.ref p) (.own ds) _ a c ⟨ds, rfl, p1⟩⟩
theorem e_lst1 {ds : List D} (h : EA ar ρ (· = ds)) (hl : ds.length ≤ 100000) : EV (tLst ar) ρ (· = .own ds) := (e_lst h fun _ e => by rw [e]; exact hl).imp fun d ⟨_, e, p⟩ => by rw [e, p]
/-! calls of own defs -/
/-- a promise about data: for what arguments, what comes -/
def SpE (Rg : List D → (En → Prop) → Prop) : Sp := fun vs H Q _ => ∃ (W : Wd) (ds : List D) (P : En → Prop), W.h = H ∧ Reps W.b ds vs ∧ Rg ds P ∧ ∀ v e W', Grow W W' → RepV W W' e v → P e → Q v W'.h
theorem e_call {Rg : List D → (En → Prop) → Prop} {dvs : List V} {cs : List D} {X : XK} {T : List D → Prop} (h : EA ar ρ T) (hc : Reps (fun _ => none) cs dvs) (hr : ∀ ds, T ds → Rg (ds ++ cs) R) : EV (tCall (SpE Rg) dvs X ar) ρ R := fun W0 W σ E Q q =>
  h W0 W σ E _ fun vs ds W1 g1 r1 p1 => ⟨W1, ds ++ cs, R, rfl, r1.app (hc.mono fun _ _ z => by
      have z' : (none : Option HO) = some _ := z
      cases z'), hr ds p1, fun v e W3 g3 r3 p3 => q v e W3 (g1.trans g3) (r3.back g1.h) p3⟩
theorem e_call0 {Rg : List D → (En → Prop) → Prop} {X : XK} {ds : List D} (h : EA ar ρ (· = ds)) (hr : Rg ds R) : EV (tCall (SpE Rg) [] X ar) ρ R := e_call h .nil fun x e => by rw [e, List.append_nil]; exact hr
theorem e_callP {Rg : List D → (En → Prop) → Prop} {X : XK} {T : List D → Prop} (h : EA ar ρ T) (hr : ∀ ds, T ds → Rg ds R) : EV (tCall (SpE Rg) [] X ar) ρ R := e_call h .nil fun x e => by rw [List.append_nil]; exact hr x e
/-! methods -/
theorem e_bm {r : V → List V → Hp → VK → Prop} {Ty : String} {x : D} {T : List D → Prop} (h : ED te ρ (· = x)) (ht : ∀ (W : Wd) v, Rep W.b x v → tyV K Ty v W.h) (ha : EA ar ρ T) (hr : ∀ ds, T ds → MD r x ds R) : EV (tBM K Ty r te ar) ρ R := fun W0 W σ E Q q =>
  h W0 W σ E _ fun v d W1 g1 r1 p1 => by
    subst p1
    exact ⟨ht W1 v r1, ha W0 W1 σ (E.grow g1) _ fun vs ds W2 g2 r2 p2 => hr ds p2 W2 v vs (r1.mono g2.b) r2 Q fun u e W3 g3 r3 p3 => q u e W3 ((g1.trans g2).trans g3) (r3.back (g1.trans g2).h) p3⟩
theorem e_m1 {r : V → List V → Hp → VK → Prop} {s : List Nat} (h : ED te ρ (· = .str s)) (ha : ED ta ρ P) (hr : ∀ y, P y → MD r (.str s) [y] R) : EV (tM1 r te ta) ρ R := fun W0 W σ E Q q =>
  h W0 W σ E _ fun v d W1 g1 r1 p1 => by
    subst p1
    refine ⟨by cases r1; exact ⟨_, rfl⟩, ha W0 W1 σ (E.grow g1) _ fun w y W2 g2 r2 p2 => hr y p2 W2 v [w] (r1.mono g2.b) (.cons r2 .nil) Q fun u e W3 g3 r3 p3 => q u e W3 ((g1.trans g2).trans g3) (r3.back (g1.trans g2).h) p3⟩
/-! slices -/
theorem eo_none : EO tNoPart ρ (· = none) := fun W0 W σ E Q q => q none W (Grow.refl W) rfl
end
end Nt

namespace Nt
open PySem PySem.Spec PyProof.Rows L2
/-! ### what is walked: single things, pairs -/
structure It1 (J : It) (ds : List D) (W : Wd) : Prop where
  go : ∀ W' : Wd, Ex W.b W'.b → ∀ i, i < ds.length → J.go i W'.h
  stop : ∀ W' : Wd, Ex W.b W'.b → J.stop ds.length W'.h
  yld : ∀ W' : Wd, Ex W.b W'.b → ∀ i x H', i < ds.length → J.yld i W'.h x H' → H' = W'.h ∧ ∃ d, ds[i]? = some d ∧ Rep W'.b d x
structure It2 (J : It) (ps : List (D × D)) (W : Wd) : Prop where
  go : ∀ W' : Wd, Ex W.b W'.b → ∀ i, i < ps.length → J.go i W'.h
  stop : ∀ W' : Wd, Ex W.b W'.b → J.stop ps.length W'.h
  yld : ∀ W' : Wd, Ex W.b W'.b → ∀ i v H', i < ps.length → J.yld i W'.h v H' → ∃ T x y p, v = .ref T ∧ W'.h T = none ∧ H' = upd W'.h T (.tup [x, y]) ∧ ps[i]? = some p ∧ Rep W'.b p.1 x ∧ Rep W'.b p.2 y
theorem It1.mono {J : It} {ds : List D} {W W1 : Wd} (j : It1 J ds W) (e : Ex W.b W1.b) : It1 J ds W1 := ⟨fun W' a => j.go W' (e.tr a), fun W' a => j.stop W' (e.tr a), fun W' a => j.yld W' (e.tr a)⟩
theorem It2.mono {J : It} {ds : List (D × D)} {W W1 : Wd} (j : It2 J ds W) (e : Ex W.b W1.b) : It2 J ds W1 := ⟨fun W' a => j.go W' (e.tr a), fun W' a => j.stop W' (e.tr a), fun W' a => j.yld W' (e.tr a)⟩
def IV1 (wi : TI) (ρ : List En) (P : List D → Prop) : Prop := ∀ W0 W σ, Env W0 W σ ρ → ∀ R : It → Hp → Prop, (∀ J ds W', Grow W W' → It1 J ds W' → P ds → R J W'.h) → wi σ W.h R
def IV2 (wi : TI) (ρ : List En) (P : List (D × D) → Prop) : Prop := ∀ W0 W σ, Env W0 W σ ρ → ∀ R : It → Hp → Prop, (∀ J ps W', Grow W W' → It2 J ps W' → P ps → R J W'.h) → wi σ W.h R
section
variable {K : PySem.W.Frag} {ta tb te : TE} {tt : TT} {ar : TA} {ρ : List En} {P PA PB : D → Prop} {R : En → Prop}
theorem sq_l {H : Hp} {a : Addr} {xs : List V} (h : H a = some (.lst xs)) : SqL K H a xs := .inl (.inl h)
theorem sq_t {H : Hp} {a : Addr} {xs : List V} (h : H a = some (.tup xs)) : SqT K H a xs := .inl (.inl h)
theorem iv_list (h : ED te ρ (fun d => ∃ ds, d = .lst ds ∧ P (.lst ds))) : IV1 (iList K te) ρ (fun ds => P (.lst ds)) := fun W0 W σ E R q => h W0 W σ E _ fun v d W' g r ⟨ds, e, p⟩ => by
  subst e
  cases r with
  | lst ha hr =>
    rename_i a ws
    have hl := hr.len
    refine ⟨a, rfl, ⟨ws, sq_l (W'.le _ _ ha)⟩, q _ ds W' g ⟨fun W2 e2 i hi => ⟨ws, ws[i]'(by omega), sq_l (W2.le _ _ (e2 _ _ ha)), List.getElem?_eq_getElem (by omega)⟩, fun W2 e2 => ⟨ws, sq_l (W2.le _ _ (e2 _ _ ha)), by omega⟩, fun W2 e2 i x H' hi y => ?_⟩ p⟩
    have hx := y.2 ws (sq_l (W2.le _ _ (e2 _ _ ha)))
    obtain ⟨d, e, r⟩ := (hr.mono e2).at hx
    exact ⟨y.1, d, e, r⟩
theorem iv_listL {ds : List D} (h : ED te ρ (· = .lst ds)) : IV1 (iList K te) ρ (· = ds) := fun W0 W σ E R q =>
  iv_list (P := fun d => d = .lst ds) (h.imp fun d e => ⟨ds, e, e.symm ▸ rfl⟩) W0 W σ E R fun J es W' g i p => q J es W' g i (D.lst.inj p)
theorem iv_tupT {ds : List D} (h : ED te ρ (· = .tup ds)) : IV1 (iTup K te) ρ (· = ds) := fun W0 W σ E R q => h W0 W σ E _ fun v d W' g r e => by
  subst e
  cases r with
  | tup ha hr =>
    rename_i a ws
    have hl := hr.len
    refine ⟨a, rfl, ⟨ws, sq_t (W'.le _ _ ha)⟩, q _ ds W' g ⟨fun W2 e2 i hi => ⟨ws, ws[i]'(by omega), sq_t (W2.le _ _ (e2 _ _ ha)), List.getElem?_eq_getElem (by omega)⟩, fun W2 e2 => ⟨ws, sq_t (W2.le _ _ (e2 _ _ ha)), by omega⟩, fun W2 e2 i x H' hi y => ?_⟩ rfl⟩
    have hx := y.2 ws (sq_t (W2.le _ _ (e2 _ _ ha)))
    obtain ⟨d, e, r⟩ := (hr.mono e2).at hx
    exact ⟨y.1, d, e, r⟩
/-- a walk over a list or a tuple -/
def iSeq (K : PySem.W.Frag) (tl : TE) : TI := fun σ H R => iList K tl σ H R ∨ iTup K tl σ H R
theorem iv_list1 {ds : List D} (h : ED te ρ (· = .lst ds)) : IV1 (iSeq K te) ρ (· = ds) := fun W0 W σ E R q => .inl (iv_listL h W0 W σ E R q)
theorem iv_tup1 {ds : List D} (h : ED te ρ (· = .tup ds)) : IV1 (iSeq K te) ρ (· = ds) := fun W0 W σ E R q => .inr (iv_tupT h W0 W σ E R q)
inductive Sq : D → List D → Prop where
  | lst (ds : List D) : Sq (.lst ds) ds
  | tup (ds : List D) : Sq (.tup ds) ds
theorem iv_sq {x : D} {ds : List D} (s : Sq x ds) (h : ED te ρ (· = x)) : IV1 (iSeq K te) ρ (· = ds) := by
  cases s with
  | lst => exact iv_list1 h
  | tup => exact iv_tup1 h
def chs (s : List Nat) : List D := s.map fun c => .str [c]
theorem iv_str1 {s : List Nat} (h : ED te ρ (· = .str s)) : IV1 (iStr te) ρ (· = chs s) := fun W0 W σ E R q => h W0 W σ E _ fun v d W' g r e => by
  subst e
  cases r
  refine ⟨⟨s.toArray⟩, rfl, q _ (chs s) W' g ⟨fun W2 e2 i hi => ?_, fun W2 e2 => ?_, fun W2 e2 i x H' hi y => ?_⟩ rfl⟩
  · have : i < s.length := by simpa [chs] using hi
    simpa [Its] using this
  · simp [Its, chs]
  · obtain ⟨c, h1, h2⟩ := y.2
    have h1' : s[i]? = some c := by simpa using h1
    exact ⟨y.1, .str [c], by simp [chs, h1'], by rw [h2]; exact .str [c]⟩
def ixs (n : Nat) : List D := (List.range n).map fun (i : Nat) => D.int (i : Int)
theorem ixs_get {n i : Nat} (h : i < n) : (ixs n)[i]? = some (.int i) := by simp [ixs, h]
theorem iv_rngP {T : Int → Prop} (h : EA ar ρ (fun ds => ∃ n, ds = [.int n] ∧ n ≤ 100000 ∧ -100000 ≤ n ∧ T n)) : IV1 (iRng1 ar) ρ (fun ds => ∃ n : Int, ds = ixs n.toNat ∧ T n) := fun W0 W σ E R q => h W0 W σ E _ fun vs ds W' g r ⟨n, e, h1, h2, t⟩ => by
  subst e
  cases r with
  | cons r rr =>
    cases rr
    cases r
    refine ⟨n, rfl, by omega, by omega, q _ (ixs n.toNat) W' g ⟨fun W2 e2 i hi => ?_, fun W2 e2 => ?_, fun W2 e2 i x H' hi y => ?_⟩ ⟨n, rfl, t⟩⟩
    · have : i < n.toNat := by simpa [ixs] using hi
      exact this
    · show n.toNat ≤ (ixs n.toNat).length
      simp [ixs]
    · have hi' : i < n.toNat := by simpa [ixs] using hi
      refine ⟨y.1, .int i, ixs_get hi', ?_⟩
      have e3 : x = .int (0 + (i : Int)) := y.2
      rw [e3, Int.zero_add]
      exact .int _
theorem iv_rng1 {n : Int} (h : EA ar ρ (· = [.int n])) (h1 : n ≤ 100000) (h2 : -100000 ≤ n) : IV1 (iRng1 ar) ρ (· = ixs n.toNat) := fun W0 W σ E R q =>
  iv_rngP (T := fun m => m = n) (h.imp fun ds e => ⟨n, e, h1, h2, rfl⟩) W0 W σ E R fun J ds W' g i ⟨m, e, e2⟩ => q J ds W' g i (by rw [e, e2])
/-- what zip goes over -/
inductive Its1 : D → List D → Prop where
  | lst (ds : List D) : Its1 (.lst ds) ds
  | tup (ds : List D) : Its1 (.tup ds) ds
  | str (s : List Nat) : Its1 (.str s) (chs s)
theorem Sq.its {x : D} {ds : List D} (s : Sq x ds) : Its1 x ds := by
  cases s with
  | lst => exact .lst _
  | tup => exact .tup _
theorem src {H : Hp} {d : D} {ds : List D} {v : V} (i : Its1 d ds) (r : Rep H d v) : ∃ (k : Sk) (xs : List V), v = k.val ∧ Reps H ds xs ∧ ∀ H', Ex H H' → k.has K H' xs := by
  cases i with
  | lst =>
    cases r with
    | lst ha hr => exact ⟨.lst _, _, rfl, hr, fun H' e => sq_l (e _ _ ha)⟩
  | tup =>
    cases r with
    | tup ha hr => exact ⟨.tup _, _, rfl, hr, fun H' e => sq_t (e _ _ ha)⟩
  | str s =>
    cases r
    refine ⟨.txt ⟨s.toArray⟩, s.map fun c => .str ⟨#[c]⟩, rfl, ?_, fun H' e => by simp [Sk.has]⟩
    induction s with
    | nil => exact .nil
    | cons c s ih => exact .cons (.str [c]) ih
theorem iv_zip {x y : D} {xs ys : List D} (hx : Its1 x xs) (hy : Its1 y ys) (h : EA ar ρ (· = [x, y])) : IV2 (iZipG K ar) ρ (· = xs.zip ys) := fun W0 W σ E R q => h W0 W σ E _ fun vs ds W' g r e => by
  subst e
  cases r with
  | cons r1 rr =>
    cases rr with
    | cons r2 rr =>
      cases rr
      obtain ⟨k1, us, rfl, ru, hu⟩ := src (K := K) hx r1
      obtain ⟨k2, ws, rfl, rw', hw⟩ := src (K := K) hy r2
      have l1 := ru.len
      have l2 := rw'.len
      refine ⟨k1, k2, us, ws, rfl, hu _ W'.le, hw _ W'.le, q _ (xs.zip ys) W' g ⟨fun W2 e2 i hi => ?_, fun W2 e2 => ?_, fun W2 e2 i v H' hi y => ?_⟩ rfl⟩
      · have : i < min xs.length ys.length := by simpa using hi
        exact ⟨us, ws, hu _ (e2.tr W2.le), hw _ (e2.tr W2.le), by omega, by omega⟩
      · refine ⟨us, ws, hu _ (e2.tr W2.le), hw _ (e2.tr W2.le), ?_⟩
        rw [List.length_zip]; omega
      · obtain ⟨T, a, c, h1, h2, h3, h4, h5⟩ := y
        obtain ⟨d1, e3, q1⟩ := (ru.mono e2).at (h4 us (hu _ (e2.tr W2.le)))
        obtain ⟨d2, e4, q2⟩ := (rw'.mono e2).at (h5 ws (hw _ (e2.tr W2.le)))
        exact ⟨T, a, c, (d1, d2), h1, h2, h3, by rw [List.getElem?_zip_eq_some]; exact ⟨e3, e4⟩, q1, q2⟩
theorem iv_enum {s : List Nat} (h : EA ar ρ (· = [.str s])) : IV2 (iEnumS ar) ρ (· = (ixs s.length).zip (chs s)) := fun W0 W σ E R q => h W0 W σ E _ fun vs ds W' g r e => by
  subst e
  cases r with
  | cons r rr =>
    cases rr
    cases r
    have hl : ((ixs s.length).zip (chs s)).length = s.length := by simp [ixs, chs]
    refine ⟨⟨s.toArray⟩, rfl, q _ _ W' g ⟨fun W2 e2 i hi => ?_, fun W2 e2 => ?_, fun W2 e2 i v H' hi y => ?_⟩ rfl⟩
    · rw [hl] at hi
      show i < s.toArray.size
      simpa using hi
    · rw [hl]
      show s.length = s.toArray.size
      simp
    · rw [hl] at hi
      obtain ⟨T, c, h1, h2, h3, h4⟩ := y
      have h4' : s[i]? = some c := by simpa using h4
      refine ⟨T, _, _, (.int i, .str [c]), h1, h2, h3, ?_, .int _, .str [c]⟩
      rw [List.getElem?_zip_eq_some]
      exact ⟨ixs_get hi, by simp [chs, h4']⟩
end
/-! ### comprehensions -/
section
variable {ρ : List En} {te : TE} {tt : TT} {wi : TI}
/-- what stands within a comprehension -/
structure Lc (W : Wd) (Dd : Addr) (Inv : Nat → List D → Prop) (i : Nat) (H : Hp) : Prop where
  ex : ∃ (W' : Wd) (acc : List D) (ws : List V), W'.h = H ∧ Grow W W' ∧ W'.h Dd = some (.lst ws) ∧ W'.b Dd = none ∧ Reps W'.b acc ws ∧ acc.length ≤ i ∧ Inv i acc
theorem lc_step {W0 W W' : Wd} {σ : L2.St} {ρ' : List En} {Dd : Addr} {Inv : Nat → List D → Prop} {i : Nat} {acc : List D} {ws : List V} (hD : W.h Dd = none) (E : Env W0 W' σ ρ') (g : Grow W W') (h1 : W'.h Dd = some (.lst ws)) (h2 : W'.b Dd = none) (r : Reps W'.b acc ws) (hl : acc.length ≤ i) (hi : i < 100000)
    (t : ET tt ρ' fun b => if b = true then ED te ρ' fun y => Inv (i + 1) (acc ++ [y]) else Inv (i + 1) acc) :
    tt σ W'.h fun b H3 => if b = true then te σ H3 fun y H4 => ∃ acc, H4 Dd = some (.lst acc) ∧ acc.length < sizeLine ∧ Lc W Dd Inv (i + 1) (upd H4 Dd (.lst (acc ++ [y]))) else Lc W Dd Inv (i + 1) H3 := by
  refine t W0 W' σ E _ fun b W2 g2 p => ?_
  cases b with
  | false => exact iteF ⟨W2, acc, ws, rfl, g.trans g2, g2.h _ _ h1, g2.nw Dd h2 (by rw [h1]; exact fun z => nomatch z), r.mono g2.b, by omega, p⟩
  | true =>
    refine iteT (p W0 W2 σ (E.grow g2) _ fun y d W3 g3 r3 p3 => ?_)
    have k1 : W3.h Dd = some (.lst ws) := g3.h _ _ (g2.h _ _ h1)
    have k2 : W3.b Dd = none := g3.nw Dd (g2.nw Dd h2 (by rw [h1]; exact fun z => nomatch z)) (by rw [g2.h _ _ h1]; exact fun z => nomatch z)
    have hlen := r.len
    refine ⟨ws, k1, Evl.sz_lt (by omega), ⟨⟨W3.b, upd W3.h Dd (.lst (ws ++ [y])), fun a o e => ?_⟩, acc ++ [d], ws ++ [y], rfl, ⟨((g.trans g2).trans g3).b, fun a o e => ?_, ((g.trans g2).trans g3).nw⟩, upd_same, k2, (r.mono (g2.trans g3).b).app (.cons r3 .nil), by rw [List.length_append]; simp; omega, p3⟩⟩
    · show upd W3.h Dd _ a = some o
      rw [upd_ne (fun z => by rw [z, k2] at e; cases e)]; exact W3.le _ _ e
    · show upd W3.h Dd _ a = some o
      rw [upd_ne (ne_of_none e hD)]; exact ((g.trans g2).trans g3).h _ _ e
theorem set_wipe {σ : L2.St} {j : Nat} {x : Option V} : (((σ.set j none).set j x).set j none) = σ.set j none := by rw [List.set_set, List.set_set]
theorem e_lc1 {j : Nat} {T : List D → Prop} {Inv : List D → Nat → List D → Prop} (h : IV1 wi ρ T) (hn : ∀ ds, T ds → ds.length ≤ 100000) (h0 : ∀ ds, T ds → Inv ds 0 [])
    (hs : ∀ ds i d acc, T ds → ds[i]? = some d → Inv ds i acc → ET tt (ρ.set j (.dat d)) fun b => if b = true then ED te (ρ.set j (.dat d)) fun y => Inv ds (i + 1) (acc ++ [y]) else Inv ds (i + 1) acc) :
    EV (tLc wi (gName j) tt te [j]) ρ (fun e => ∃ ds acc, e = .own acc ∧ T ds ∧ Inv ds ds.length acc) := fun W0 W σ E Q q => h W0 W σ E _ fun J ds W1 g1 it t Dd hD => by
  have E1 := E.grow g1
  refine ⟨fun i m H => i ≤ ds.length ∧ m = ds.length - i ∧ Lc W1 Dd (Inv ds) i H, ⟨ds.length, Nat.zero_le _, rfl, ⟨W1.add Dd (.lst []) hD, [], [], rfl, Grow.add hD, upd_same, W1.le.none' hD, .nil, Nat.le_refl _, h0 ds t⟩⟩, ?_⟩
  rintro i m H ⟨hi, hm, ⟨W', acc, ws, rfl, g, k1, k2, r, hl, inv⟩⟩
  by_cases hlt : i < ds.length
  · refine .inr ⟨it.go W' g.b i hlt, fun H' => Lc W1 Dd (Inv ds) (i + 1) H', fun H' l => ⟨ds.length - (i + 1), by omega, hlt, rfl, l⟩, fun x H' y => ?_⟩
    obtain ⟨e, d, hd, rd⟩ := it.yld W' g.b i x H' hlt y
    subst e
    have E2 : Env W0 W' ((σ.set j none).set j (some x)) ((ρ.set j .un).set j (.dat d)) := Env.set ((E1.grow g).drop j none) (Grow.refl W') (e := .dat d) rd j
    have er : (ρ.set j .un).set j (.dat d) = ρ.set j (.dat d) := List.set_set ..
    rw [er] at E2
    exact ⟨set_wipe, lc_step hD E2 g k1 k2 r hl (by have := hn ds t; omega) (hs ds i d acc t hd inv)⟩
  · have e : i = ds.length := by omega
    subst e
    exact .inl ⟨it.stop W' g.b, q _ (.own acc) W' (g1.trans g) ⟨Dd, ws, rfl, k1, k2, g1.h.none' hD, r⟩ ⟨ds, acc, rfl, t, inv⟩⟩
theorem set_wipe2 {σ : L2.St} {j k : Nat} {x y : Option V} (hjk : j ≠ k) : ((((((σ.set k none).set j none).set j x).set k y).set k none).set j none) = (σ.set k none).set j none := by
  have a : ((σ.set k none).set j none).set j x = (σ.set k none).set j x := List.set_set ..
  have b : (((σ.set k none).set j x).set k y).set k none = ((σ.set k none).set j x).set k none := List.set_set ..
  have c : ((σ.set k none).set j x).set k none = ((σ.set k none).set k none).set j x := List.set_comm _ _ hjk
  have d : (σ.set k none).set k none = σ.set k none := List.set_set ..
  rw [a, b, c, d]
  exact List.set_set ..
theorem e_lc2 {j k : Nat} {T : List (D × D) → Prop} {Inv : List (D × D) → Nat → List D → Prop} (h : IV2 wi ρ T) (hjk : j ≠ k) (hn : ∀ ds, T ds → ds.length ≤ 100000) (h0 : ∀ ds, T ds → Inv ds 0 [])
    (hs : ∀ ds i d acc, T ds → ds[i]? = some d → Inv ds i acc → ET tt ((ρ.set j (.dat d.1)).set k (.dat d.2)) fun b => if b = true then ED te ((ρ.set j (.dat d.1)).set k (.dat d.2)) fun y => Inv ds (i + 1) (acc ++ [y]) else Inv ds (i + 1) acc) {K : PySem.W.Frag} :
    EV (tLc wi (gTup K 2 (gCons (gName j) (gCons (gName k) gNil))) tt te [j, k]) ρ (fun e => ∃ ds acc, e = .own acc ∧ T ds ∧ Inv ds ds.length acc) := fun W0 W σ E Q q => h W0 W σ E _ fun J ds W1 g1 it t Dd hD => by
  have E1 := E.grow g1
  refine ⟨fun i m H => i ≤ ds.length ∧ m = ds.length - i ∧ Lc W1 Dd (Inv ds) i H, ⟨ds.length, Nat.zero_le _, rfl, ⟨W1.add Dd (.lst []) hD, [], [], rfl, Grow.add hD, upd_same, W1.le.none' hD, .nil, Nat.le_refl _, h0 ds t⟩⟩, ?_⟩
  rintro i m H ⟨hi, hm, ⟨W', acc, ws, rfl, g, k1, k2, r, hl, inv⟩⟩
  by_cases hlt : i < ds.length
  · refine .inr ⟨it.go W' g.b i hlt, fun H' => Lc W1 Dd (Inv ds) (i + 1) H', fun H' l => ⟨ds.length - (i + 1), by omega, hlt, rfl, l⟩, fun v H' yy => ?_⟩
    obtain ⟨Tt, x, y, d, rfl, hT, rfl, hd, rx, ry⟩ := it.yld W' g.b i v H' hlt yy
    have gT := Grow.add (W := W') (o := .tup [x, y]) hT
    have neD : Dd ≠ Tt := fun z => by rw [z, hT] at k1; cases k1
    have E2 : Env W0 (W'.add Tt (.tup [x, y]) hT) (((σ.set k none).set j none).set j (some x)) (((ρ.set k .un).set j .un).set j (.dat d.1)) := Env.set ((((E1.grow g).grow gT).drop k none).drop j none) (Grow.refl _) (e := .dat d.1) rx j
    have E3 := Env.set E2 (Grow.refl _) (e := .dat d.2) ry k
    have er : ((((ρ.set k .un).set j .un).set j (.dat d.1)).set k (.dat d.2)) = ((ρ.set j (.dat d.1)).set k (.dat d.2)) := by
      rw [List.set_set, List.set_comm _ _ (show k ≠ j from hjk.symm), List.set_set]
    rw [er] at E3
    refine ⟨Tt, [x, y], rfl, sq_t upd_same, rfl, x, [y], rfl, y, [], rfl, rfl, set_wipe2 hjk, ?_⟩
    exact lc_step (W' := W'.add Tt (.tup [x, y]) hT) hD E3 (g.trans gT) (by show upd W'.h Tt _ Dd = _; rw [upd_ne neD]; exact k1) k2 r hl (by have := hn ds t; omega) (hs ds i d acc t hd inv)
  · have e : i = ds.length := by omega
    subst e
    exact .inl ⟨it.stop W' g.b, q _ (.own acc) W' (g1.trans g) ⟨Dd, ws, rfl, k1, k2, g1.h.none' hD, r⟩ ⟨ds, acc, rfl, t, inv⟩⟩
end
end Nt

namespace Nt
open PySem PySem.Spec PyProof.Rows L2
/-! ### own lists that change -/
theorem Env.mut {W0 W : Wd} {σ : L2.St} {ρ : List En} (E : Env W0 W σ ρ) {i : Nat} {ds ds' : List D} (h : ρ[i]? = some (.own ds)) :
    ∃ l vs, σ[i]? = some (some (.ref l)) ∧ W.h l = some (.lst vs) ∧ W0.h l = none ∧ Reps W.b ds vs ∧ ∀ vs', Reps W.b ds' vs' → ∃ W' : Wd, W'.b = W.b ∧ W'.h = upd W.h l (.lst vs') ∧ Env W0 W' σ (ρ.set i (.own ds')) := by
  obtain ⟨v, hv, l, vs, rfl, h1, h2, h3, h4⟩ := E.ent i _ h (fun z => nomatch z)
  refine ⟨l, vs, hv, h1, h3, h4, fun vs' r => ⟨⟨W.b, upd W.h l (.lst vs'), fun a o e => ?_⟩, rfl, rfl, ⟨⟨E.g.b, fun a o e => ?_, E.g.nw⟩, by rw [List.length_set, E.len], fun j e' hj n => ?_, fun j k e1 e2 l' a1 a2 t1 t2 a3 a4 => ?_⟩⟩⟩
  · show upd W.h l _ a = some o
    rw [upd_ne (fun z => by rw [z, h2] at e; cases e)]; exact W.le _ _ e
  · show upd W.h l _ a = some o
    rw [upd_ne (ne_of_none e h3)]; exact E.g.h _ _ e
  · rcases set_get hj with ⟨rfl, rfl, _⟩ | ⟨hne, hj⟩
    · exact ⟨_, hv, l, vs', rfl, upd_same, h2, h3, r⟩
    · obtain ⟨v', a, b⟩ := E.ent j e' hj n
      refine ⟨v', a, ?_⟩
      cases e' with
      | un => exact absurd rfl n
      | dat d => exact b
      | own es =>
        obtain ⟨l2, ws, rfl, w1, w2, w3, w4⟩ := b
        refine ⟨l2, ws, rfl, ?_, w2, w3, w4⟩
        show upd W.h l _ l2 = _
        rw [upd_ne (fun z => hne (E.apart j i _ _ l hj h rfl rfl (by rw [← z]; exact a) hv))]
        exact w1
      | dct es =>
        obtain ⟨l2, ws, rfl, w1, w2, w3, w4⟩ := b
        refine ⟨l2, ws, rfl, ?_, w2, w3, w4⟩
        show upd W.h l _ l2 = _
        rw [upd_ne (fun z => hne (E.apart j i _ _ l hj h rfl rfl (by rw [← z]; exact a) hv))]
        exact w1
      | inst x C fs =>
        obtain ⟨dx, vfs, rfl, w1, w1', w2, w2', w3, w3', w4⟩ := b
        refine ⟨dx, vfs, rfl, ?_, ?_, w2, w2', w3, w3', w4⟩
        · show upd W.h l _ x = _
          rw [upd_ne (fun z => hne (E.apart j i _ _ l hj h rfl rfl (by rw [← z]; exact a) hv))]
          exact w1
        · show upd W.h l _ dx = _
          rw [upd_ne (fun z => by rw [z, h1] at w1'; cases w1')]
          exact w1'
  · rcases set_get a1 with ⟨q1, q, _⟩ | ⟨n1, m1⟩
    · rcases set_get a2 with ⟨q2, q', _⟩ | ⟨n2, m2⟩
      · rw [q1, q2]
      · rw [q1] at a3 ⊢
        exact E.apart i k _ _ l' h m2 rfl t2 a3 a4
    · rcases set_get a2 with ⟨q2, q', _⟩ | ⟨n2, m2⟩
      · rw [q2] at a4 ⊢
        exact E.apart j i _ _ l' m1 h t1 rfl a3 a4
      · exact E.apart j k _ _ l' m1 m2 t1 t2 a3 a4
/-- an own dict that changes -/
theorem Env.mutK {W0 W : Wd} {σ : L2.St} {ρ : List En} (E : Env W0 W σ ρ) {i : Nat} {kd kd' : List (Key × D)} (h : ρ[i]? = some (.dct kd)) :
    ∃ l kvs, σ[i]? = some (some (.ref l)) ∧ W.h l = some (.dK kvs) ∧ W0.h l = none ∧ RepK W.b kd kvs ∧ ∀ kvs', RepK W.b kd' kvs' → ∃ W' : Wd, W'.b = W.b ∧ W'.h = upd W.h l (.dK kvs') ∧ Env W0 W' σ (ρ.set i (.dct kd')) := by
  obtain ⟨v, hv, l, vs, rfl, h1, h2, h3, h4⟩ := E.ent i _ h (fun z => nomatch z)
  refine ⟨l, vs, hv, h1, h3, h4, fun vs' r => ⟨⟨W.b, upd W.h l (.dK vs'), fun a o e => ?_⟩, rfl, rfl, ⟨⟨E.g.b, fun a o e => ?_, E.g.nw⟩, by rw [List.length_set, E.len], fun j e' hj n => ?_, fun j k e1 e2 l' a1 a2 t1 t2 a3 a4 => ?_⟩⟩⟩
  · show upd W.h l _ a = some o
    rw [upd_ne (fun z => by rw [z, h2] at e; cases e)]; exact W.le _ _ e
  · show upd W.h l _ a = some o
    rw [upd_ne (ne_of_none e h3)]; exact E.g.h _ _ e
  · rcases set_get hj with ⟨rfl, rfl, _⟩ | ⟨hne, hj⟩
    · exact ⟨_, hv, l, vs', rfl, upd_same, h2, h3, r⟩
    · obtain ⟨v', a, b⟩ := E.ent j e' hj n
      refine ⟨v', a, ?_⟩
      cases e' with
      | un => exact absurd rfl n
      | dat d => exact b
      | own es =>
        obtain ⟨l2, ws, rfl, w1, w2, w3, w4⟩ := b
        refine ⟨l2, ws, rfl, ?_, w2, w3, w4⟩
        show upd W.h l _ l2 = _
        rw [upd_ne (fun z => hne (E.apart j i _ _ l hj h rfl rfl (by rw [← z]; exact a) hv))]
        exact w1
      | dct es =>
        obtain ⟨l2, ws, rfl, w1, w2, w3, w4⟩ := b
        refine ⟨l2, ws, rfl, ?_, w2, w3, w4⟩
        show upd W.h l _ l2 = _
        rw [upd_ne (fun z => hne (E.apart j i _ _ l hj h rfl rfl (by rw [← z]; exact a) hv))]
        exact w1
      | inst x C fs =>
        obtain ⟨dx, vfs, rfl, w1, w1', w2, w2', w3, w3', w4⟩ := b
        refine ⟨dx, vfs, rfl, ?_, ?_, w2, w2', w3, w3', w4⟩
        · show upd W.h l _ x = _
          rw [upd_ne (fun z => hne (E.apart j i _ _ l hj h rfl rfl (by rw [← z]; exact a) hv))]
          exact w1
        · show upd W.h l _ dx = _
          rw [upd_ne (fun z => by rw [z, h1] at w1'; cases w1')]
          exact w1'
  · rcases set_get a1 with ⟨q1, q, _⟩ | ⟨n1, m1⟩
    · rcases set_get a2 with ⟨q2, q', _⟩ | ⟨n2, m2⟩
      · rw [q1, q2]
      · rw [q1] at a3 ⊢
        exact E.apart i k _ _ l' h m2 rfl t2 a3 a4
    · rcases set_get a2 with ⟨q2, q', _⟩ | ⟨n2, m2⟩
      · rw [q2] at a4 ⊢
        exact E.apart j i _ _ l' m1 h t1 rfl a3 a4
      · exact E.apart j k _ _ l' m1 m2 t1 t2 a3 a4
/-- an own instance that changes -/
theorem Env.mutI {W0 W : Wd} {σ : L2.St} {ρ : List En} (E : Env W0 W σ ρ) {i : Nat} {x C : Addr} {fs fs' : List (Str × D)} (h : ρ[i]? = some (.inst x C fs)) :
    ∃ dx vfs, σ[i]? = some (some (.ref x)) ∧ W.h x = some (.ins C dx vfs) ∧ RepF W.b fs vfs ∧ ∀ vfs', RepF W.b fs' vfs' → ∃ W' : Wd, W'.b = W.b ∧ W'.h = upd W.h x (.ins C dx vfs') ∧ Env W0 W' σ (ρ.set i (.inst x C fs')) := by
  obtain ⟨v, hv, dx, vfs, rfl, h1, h1', h2, h2', h3, h3', h4⟩ := E.ent i _ h (fun z => nomatch z)
  refine ⟨dx, vfs, hv, h1, h4, fun vfs' r => ⟨⟨W.b, upd W.h x (.ins C dx vfs'), fun a o e => ?_⟩, rfl, rfl, ⟨⟨E.g.b, fun a o e => ?_, E.g.nw⟩, by rw [List.length_set, E.len], fun j e' hj n => ?_, fun j k e1 e2 l' a1 a2 t1 t2 a3 a4 => ?_⟩⟩⟩
  · show upd W.h x _ a = some o
    rw [upd_ne (fun z => by rw [z, h2] at e; cases e)]; exact W.le _ _ e
  · show upd W.h x _ a = some o
    rw [upd_ne (ne_of_none e h3)]; exact E.g.h _ _ e
  · rcases set_get hj with ⟨rfl, rfl, _⟩ | ⟨hne, hj⟩
    · refine ⟨_, hv, dx, vfs', rfl, upd_same, ?_, h2, h2', h3, h3', r⟩
      show upd W.h x _ dx = _
      rw [upd_ne (fun z => by rw [z, h1] at h1'; cases h1')]
      exact h1'
    · obtain ⟨v', a, b⟩ := E.ent j e' hj n
      refine ⟨v', a, ?_⟩
      have apx : ∀ {l2 : Addr}, e'.adr = true → v' = .ref l2 → l2 ≠ x := fun {l2} t q z => hne (E.apart j i _ _ x hj h t rfl (by rw [← z, ← q]; exact a) hv)
      cases e' with
      | un => exact absurd rfl n
      | dat d => exact b
      | own es =>
        obtain ⟨l2, ws, rfl, w1, w2, w3, w4⟩ := b
        refine ⟨l2, ws, rfl, ?_, w2, w3, w4⟩
        show upd W.h x _ l2 = _
        rw [upd_ne (apx rfl rfl)]
        exact w1
      | dct es =>
        obtain ⟨l2, ws, rfl, w1, w2, w3, w4⟩ := b
        refine ⟨l2, ws, rfl, ?_, w2, w3, w4⟩
        show upd W.h x _ l2 = _
        rw [upd_ne (apx rfl rfl)]
        exact w1
      | inst x2 C2 gs =>
        obtain ⟨dx2, vf2, rfl, w1, w1', w2, w2', w3, w3', w4⟩ := b
        refine ⟨dx2, vf2, rfl, ?_, ?_, w2, w2', w3, w3', w4⟩
        · show upd W.h x _ x2 = _
          rw [upd_ne (apx rfl rfl)]
          exact w1
        · show upd W.h x _ dx2 = _
          rw [upd_ne (fun z => by rw [z, h1] at w1'; cases w1')]
          exact w1'
  · rcases set_get a1 with ⟨q1, q, _⟩ | ⟨n1, m1⟩
    · rcases set_get a2 with ⟨q2, q', _⟩ | ⟨n2, m2⟩
      · rw [q1, q2]
      · rw [q1] at a3 ⊢
        exact E.apart i k _ _ l' h m2 rfl t2 a3 a4
    · rcases set_get a2 with ⟨q2, q', _⟩ | ⟨n2, m2⟩
      · rw [q2] at a4 ⊢
        exact E.apart j i _ _ l' m1 h t1 rfl a3 a4
      · exact E.apart j k _ _ l' m1 m2 t1 t2 a3 a4
/-- an own list is asked, what comes is flat -/
theorem Env.lend {W0 W : Wd} {σ : L2.St} {ρ : List En} (E : Env W0 W σ ρ) {i : Nat} {ds : List D} (h : ρ[i]? = some (.own ds)) :
    ∃ W1 : Wd, W1.h = W.h ∧ Env W0 W1 σ (ρ.set i (.dat (.lst ds))) ∧ ∀ W2 : Wd, Grow W1 W2 → ∃ W3 : Wd, W3.h = W2.h ∧ Grow W W3 := by
  obtain ⟨W1, e1, e2, E1⟩ := E.freeze h
  have gh : ∀ W2 : Wd, Grow W1 W2 → Ex W.h W2.h := fun W2 g => by rw [← e1]; exact g.h
  exact ⟨W1, e1, E1, fun W2 g => ⟨⟨W.b, W2.h, W.le.tr (gh W2 g)⟩, rfl, ⟨Ex.rfl', gh W2 g, fun _ z _ => z⟩⟩⟩
/-! ### statements -/
structure Ps where
  N : List En → Prop
  R : En → Prop
  B : List En → Prop := fun _ => False
  C : List En → Prop := fun _ => False
def TT' (ts : TS) (ρ : List En) (p : Ps) : Prop := ∀ W0 W σ, Env W0 W σ ρ → ∀ Dd : Ends, (∀ σ' W' ρ', Env W0 W' σ' ρ' → Ex W.b W'.b → p.N ρ' → Dd.nx σ' W'.h) → (∀ v e W', Grow W0 W' → RepV W0 W' e v → p.R e → Dd.rt v W'.h) →
  (∀ σ' W' ρ', Env W0 W' σ' ρ' → Ex W.b W'.b → p.B ρ' → Dd.bk σ' W'.h) → (∀ σ' W' ρ', Env W0 W' σ' ρ' → Ex W.b W'.b → p.C ρ' → Dd.ct σ' W'.h) → ts Dd σ W.h
section
variable {K : PySem.W.Frag} {ta tb te : TE} {tt : TT} {ar : TA} {ρ : List En} {p : Ps} {t u : TS} {wi : TI} {P : En → Prop} {PD : D → Prop} {T : Bool → Prop}
theorem t_seq {M : List En → Prop} (h : TT' t ρ { p with N := M }) (k : ∀ ρ', M ρ' → TT' u ρ' p) : TT' (tSeq t u) ρ p := fun W0 W σ E Dd nx rt bk ct =>
  h W0 W σ E { Dd with nx := u Dd } (fun σ' W' ρ' E' e m => k ρ' m W0 W' σ' E' Dd (fun σ2 W2 ρ2 E2 e2 n => nx σ2 W2 ρ2 E2 (e.tr e2) n) rt (fun σ2 W2 ρ2 E2 e2 n => bk σ2 W2 ρ2 E2 (e.tr e2) n) (fun σ2 W2 ρ2 E2 e2 n => ct σ2 W2 ρ2 E2 (e.tr e2) n)) rt bk ct
theorem t_next (h : p.N ρ) : TT' tNext ρ p := fun W0 W σ E Dd nx _ _ _ => nx σ W ρ E Ex.rfl' h
theorem t_break (h : p.B ρ) : TT' tBreak ρ p := fun W0 W σ E Dd _ _ bk _ => bk σ W ρ E Ex.rfl' h
theorem t_cont (h : p.C ρ) : TT' tCont ρ p := fun W0 W σ E Dd _ _ _ ct => ct σ W ρ E Ex.rfl' h
theorem t_asg {i : Nat} (h : EV te ρ P) (k : ∀ e, P e → p.N (ρ.set i e)) : TT' (tAsg te (gName i)) ρ p := fun W0 W σ E Dd nx _ _ _ => h W0 W σ E _ fun v e W' g r q => nx _ W' _ (E.set g r i) g.b (k e q)
theorem t_asgd {i : Nat} (h : ED te ρ PD) (k : ∀ d, PD d → p.N (ρ.set i (.dat d))) : TT' (tAsg te (gName i)) ρ p := t_asg h.ev fun e ⟨d, q, r⟩ => by rw [q]; exact k d r
theorem q_asg {i : Nat} (h : EV te ρ P) (k : ∀ e, P e → TT' u (ρ.set i e) p) : TT' (tSeq (tAsg te (gName i)) u) ρ p := t_seq (M := fun ρ' => TT' u ρ' p) (t_asg h k) fun _ q => q
theorem q_asgd {i : Nat} (h : ED te ρ PD) (k : ∀ d, PD d → TT' u (ρ.set i (.dat d)) p) : TT' (tSeq (tAsg te (gName i)) u) ρ p := t_seq (M := fun ρ' => TT' u ρ' p) (t_asgd h k) fun _ q => q
theorem q_asg1 {i : Nat} {d : D} (h : ED te ρ (· = d)) (k : TT' u (ρ.set i (.dat d)) p) : TT' (tSeq (tAsg te (gName i)) u) ρ p := q_asgd h fun x e => by rw [e]; exact k
theorem q_asgo {i : Nat} {ds : List D} (h : EV te ρ (· = .own ds)) (k : TT' u (ρ.set i (.own ds)) p) : TT' (tSeq (tAsg te (gName i)) u) ρ p := q_asg h fun x e => by rw [e]; exact k
theorem t_ret (h : EV te ρ P) (k : ∀ e, P e → p.R e) : TT' (tRet te) ρ p := fun W0 W σ E Dd _ rt _ _ => h W0 W σ E _ fun v e W' g r q => rt v e W' (E.g.trans g) (r.back E.g.h) (k e q)
theorem t_retd (h : ED te ρ PD) (k : ∀ d, PD d → p.R (.dat d)) : TT' (tRet te) ρ p := t_ret h.ev fun e ⟨d, q, r⟩ => by rw [q]; exact k d r
theorem t_ret1 {d : D} (h : ED te ρ (· = d)) (k : p.R (.dat d)) : TT' (tRet te) ρ p := t_retd h fun _ e => by rw [e]; exact k
/-- an own list is handed back -/
theorem t_retO {i : Nat} {ds : List D} (h : ρ[i]? = some (.own ds)) (k : p.R (.own ds)) : TT' (tRet (tVar i)) ρ p := fun W0 W σ E Dd _ rt _ _ => by
  obtain ⟨v, a, r⟩ := E.ent i _ h (fun z => nomatch z)
  exact ⟨v, a, rt v _ W E.g r k⟩
theorem t_if (h : ET tt ρ T) (h1 : T true → TT' t ρ p) (h2 : T false → TT' u ρ p) : TT' (tIfS tt t u) ρ p := fun W0 W σ E Dd nx rt bk ct => h W0 W σ E _ fun b W' g q => by
  have f : ∀ {X : List En → Prop} {Y : L2.St → Hp → Prop}, (∀ σ' W' ρ', Env W0 W' σ' ρ' → Ex W.b W'.b → X ρ' → Y σ' W'.h) → (∀ σ' W2 ρ', Env W0 W2 σ' ρ' → Ex W'.b W2.b → X ρ' → Y σ' W2.h) := fun z σ' W2 ρ' E2 e2 x => z σ' W2 ρ' E2 (g.b.tr e2) x
  cases b with
  | true => exact iteT (h1 q W0 W' σ (E.grow g) Dd (f nx) rt (f bk) (f ct))
  | false => exact iteF (h2 q W0 W' σ (E.grow g) Dd (f nx) rt (f bk) (f ct))
theorem q_if (h : ET tt ρ T) (h1 : T true → TT' t ρ { p with N := fun ρ' => TT' u ρ' p }) (h2 : T false → TT' u ρ p) : TT' (tSeq (tIfS tt t tNext) u) ρ p :=
  t_seq (M := fun ρ' => TT' u ρ' p) (t_if h h1 fun q => t_next (h2 q)) fun _ q => q
theorem q_if1 {b : Bool} (h : ET tt ρ (· = b)) (h1 : b = true → TT' t ρ { p with N := fun ρ' => TT' u ρ' p }) (h2 : b = false → TT' u ρ p) : TT' (tSeq (tIfS tt t tNext) u) ρ p := q_if h (fun e => h1 e.symm) fun e => h2 e.symm
theorem q_ife {v : TS} (h : ET tt ρ T) (h1 : T true → TT' t ρ { p with N := fun ρ' => TT' u ρ' p }) (h2 : T false → TT' v ρ { p with N := fun ρ' => TT' u ρ' p }) : TT' (tSeq (tIfS tt t v) u) ρ p :=
  t_seq (M := fun ρ' => TT' u ρ' p) (t_if h h1 h2) fun _ q => q
theorem t_imp {p' : Ps} (h : TT' t ρ p') (n : ∀ r, p'.N r → p.N r) (r : ∀ r, p'.R r → p.R r) (b : ∀ r, p'.B r → p.B r) (c : ∀ r, p'.C r → p.C r) : TT' t ρ p := fun W0 W σ E Dd nx rt bk ct =>
  h W0 W σ E Dd (fun a b c d e f => nx a b c d e (n _ f)) (fun v e W' g q z => rt v e W' g q (r _ z)) (fun a x c d e f => bk a x c d e (b _ f)) (fun a b x d e f => ct a b x d e (c _ f))
/-- an own list is data from here on -/
theorem t_freeze {i : Nat} {ds : List D} (h : ρ[i]? = some (.own ds)) (k : TT' t (ρ.set i (.dat (.lst ds))) p) : TT' t ρ p := fun W0 W σ E Dd nx rt bk ct => by
  obtain ⟨W1, e1, e2, E1⟩ := E.freeze h
  rw [← e1]
  exact k W0 W1 σ E1 Dd (fun σ' W' ρ' E' e n => nx σ' W' ρ' E' (e2.tr e) n) rt (fun σ' W' ρ' E' e n => bk σ' W' ρ' E' (e2.tr e) n) (fun σ' W' ρ' E' e n => ct σ' W' ρ' E' (e2.tr e) n)
theorem e_lend {i : Nat} {ds : List D} (h : ρ[i]? = some (.own ds)) (k : ED te (ρ.set i (.dat (.lst ds))) PD) (f : ∀ d, PD d → d.flat = true) : ED te ρ PD := fun W0 W σ E Q q => by
  obtain ⟨W1, e1, E1, z⟩ := E.lend h
  rw [← e1]
  refine k W0 W1 σ E1 Q fun v d W2 g r pd => ?_
  obtain ⟨W3, e3, g3⟩ := z W2 g
  rw [← e3]
  exact q v d W3 g3 (r.flat (f d pd)) pd
theorem et_lend {i : Nat} {ds : List D} (h : ρ[i]? = some (.own ds)) (k : ET tt (ρ.set i (.dat (.lst ds))) T) : ET tt ρ T := fun W0 W σ E Q q => by
  obtain ⟨W1, e1, E1, z⟩ := E.lend h
  rw [← e1]
  refine k W0 W1 σ E1 Q fun b W2 g pd => ?_
  obtain ⟨W3, e3, g3⟩ := z W2 g
  rw [← e3]
  exact q b W3 g3 pd
/-! loops -/
theorem t_for1 {j : Nat} {Ti : List D → Prop} (h : IV1 wi ρ Ti) (Inv : List D → Nat → List En → Prop) (h0 : ∀ ds, Ti ds → Inv ds 0 ρ)
    (hs : ∀ ds i d ρ', Ti ds → ds[i]? = some d → Inv ds i ρ' → TT' t (ρ'.set j (.dat d)) { N := Inv ds (i + 1), R := p.R, B := p.N, C := Inv ds (i + 1) }) (hd : ∀ ds ρ', Ti ds → Inv ds ds.length ρ' → p.N ρ') : TT' (tFor wi (gName j) t) ρ p := fun W0 W σ E Dd nx rt bk ct =>
  h W0 W σ E _ fun J ds W1 g1 it ti => by
    refine ⟨fun i m σ' H => i ≤ ds.length ∧ m = ds.length - i ∧ ∃ W' ρ', W'.h = H ∧ Env W0 W' σ' ρ' ∧ Ex W1.b W'.b ∧ Inv ds i ρ', ⟨ds.length, Nat.zero_le _, rfl, W1, ρ, rfl, E.grow g1, Ex.rfl', h0 ds ti⟩, ?_⟩
    rintro i m σ' H ⟨hi, hm, W', ρ', rfl, E', e', inv⟩
    by_cases hlt : i < ds.length
    · refine .inr ⟨it.go W' e' i hlt, fun σ2 H2 => ∃ W' ρ', W'.h = H2 ∧ Env W0 W' σ2 ρ' ∧ Ex W1.b W'.b ∧ Inv ds (i + 1) ρ', fun σ2 H2 l => ⟨ds.length - (i + 1), by omega, hlt, rfl, l⟩, fun x H' y => ?_⟩
      obtain ⟨e, d, hd', rd⟩ := it.yld W' e' i x H' hlt y
      subst e
      exact hs ds i d ρ' ti hd' inv W0 W' _ (E'.set (Grow.refl W') (e := .dat d) rd j) _ (fun σ2 W2 ρ2 E2 e2 n => ⟨W2, ρ2, rfl, E2, e'.tr e2, n⟩) rt (fun σ2 W2 ρ2 E2 e2 n => nx σ2 W2 ρ2 E2 ((g1.b.tr e').tr e2) n) (fun σ2 W2 ρ2 E2 e2 n => ⟨W2, ρ2, rfl, E2, e'.tr e2, n⟩)
    · have e : i = ds.length := by omega
      subst e
      exact .inl ⟨it.stop W' e', nx σ' W' ρ' E' (g1.b.tr e') (hd ds ρ' ti inv)⟩
theorem t_while (Inv : Nat → List En → Prop) (m0 : Nat) (h0 : Inv m0 ρ)
    (hs : ∀ m ρ', Inv m ρ' → ∃ T : Bool → Prop, ET tt ρ' T ∧ (T true → TT' t ρ' { N := fun r => ∃ m', m' < m ∧ Inv m' r, R := p.R, B := p.N, C := fun r => ∃ m', m' < m ∧ Inv m' r }) ∧ (T false → p.N ρ')) : TT' (tWhile tt t) ρ p := fun W0 W σ E Dd nx rt bk ct => by
  refine ⟨fun m σ' H => ∃ W' ρ', W'.h = H ∧ Env W0 W' σ' ρ' ∧ Ex W.b W'.b ∧ Inv m ρ', ⟨m0, W, ρ, rfl, E, Ex.rfl', h0⟩, ?_⟩
  rintro m σ' H ⟨W', ρ', rfl, E', e', inv⟩
  obtain ⟨T, h, h1, h2⟩ := hs m ρ' inv
  refine h W0 W' σ' E' _ fun b W2 g2 q => ?_
  cases b with
  | true =>
    refine iteT ⟨fun σ2 H2 => ∃ m', m' < m ∧ ∃ W' ρ', W'.h = H2 ∧ Env W0 W' σ2 ρ' ∧ Ex W.b W'.b ∧ Inv m' ρ', fun σ2 H2 l => l, ?_⟩
    exact h1 q W0 W2 σ' (E'.grow g2) _ (fun σ2 W3 ρ2 E2 e2 ⟨m', a, b⟩ => ⟨m', a, W3, ρ2, rfl, E2, (e'.tr g2.b).tr e2, b⟩) rt (fun σ2 W3 ρ2 E2 e2 n => nx σ2 W3 ρ2 E2 ((e'.tr g2.b).tr e2) n) (fun σ2 W3 ρ2 E2 e2 ⟨m', a, b⟩ => ⟨m', a, W3, ρ2, rfl, E2, (e'.tr g2.b).tr e2, b⟩)
  | false => exact iteF (nx σ' W2 ρ' (E'.grow g2) (e'.tr g2.b) (h2 q))
theorem q_of {M : List En → Prop} (h : TT' t ρ { p with N := M }) (k : ∀ ρ', M ρ' → TT' u ρ' p) : TT' (tSeq t u) ρ p := t_seq h k
/-! own lists by their methods -/
theorem t_app {i : Nat} {ds : List D} (h : ρ[i]? = some (.own ds)) (he : ED te ρ PD) (hl : ds.length < 100000) (k : ∀ d, PD d → p.N (ρ.set i (.own (ds ++ [d])))) : TT' (tDrop (tBM K "list" rAppend (tVar i) (tCons te tNil))) ρ p := fun W0 W σ E Dd nx rt bk ct => by
  obtain ⟨l, vs, hv, h1, _⟩ := E.mut (ds' := []) h
  refine ⟨.ref l, hv, .inl ⟨rfl, _, sq_l h1⟩, ?_⟩
  refine he W0 W σ E _ fun v d W1 g1 r1 pd => ?_
  obtain ⟨l', vs', hv', h1', _, r', z⟩ := (E.grow g1).mut (ds' := ds ++ [d]) h
  rw [hv] at hv'
  cases hv'
  obtain ⟨W2, e1, e2, E2⟩ := z (vs' ++ [v]) (r'.app (.cons r1 .nil))
  have hlen := r'.len
  refine ⟨l, vs', v, rfl, rfl, h1', Evl.sz_lt (by omega), ?_⟩
  rw [← e2]
  exact nx σ W2 _ E2 (by rw [e1]; exact g1.b) (k d pd)
theorem t_pop {i j : Nat} {ds : List D} {d : D} (h : ρ[i]? = some (.own ds)) (hd : ds[ds.length - 1]? = some d) (k : p.N ((ρ.set i (.own ds.dropLast)).set j (.dat d))) : TT' (tAsg (tBM0 K "list" rPop (tVar i)) (gName j)) ρ p := fun W0 W σ E Dd nx rt bk ct => by
  obtain ⟨l, vs, hv, h1, _, r, z⟩ := E.mut (ds' := ds.dropLast) h
  obtain ⟨v, q1, q2⟩ := r.get hd
  obtain ⟨W2, e1, e2, E2⟩ := z vs.dropLast (by rw [List.dropLast_eq_take, List.dropLast_eq_take, r.len]; exact r.take _)
  refine ⟨.ref l, hv, .inl ⟨rfl, _, sq_l h1⟩, l, vs, v, rfl, rfl, h1, by rw [r.len]; exact q1, ?_⟩
  rw [← e2]
  exact nx _ W2 _ (E2.set (Grow.refl W2) (e := .dat d) (by show Rep W2.b d v; rw [e1]; exact q2) j) (by rw [e1]; exact Ex.rfl') k
theorem reps_erase {H : Hp} : ∀ {ds : List D} {vs : List V} (k : Nat), Reps H ds vs → Reps H (ds.eraseIdx k) (vs.eraseIdx k)
  | _, _, 0, .nil => .nil
  | _, _, k + 1, .nil => .nil
  | _, _, 0, .cons _ r => r
  | _, _, k + 1, .cons h r => .cons h (reps_erase k r)
/-- found.append(rest.pop(k)) -/
theorem t_apop {i j : Nat} {xs ys : List D} (hij : i ≠ j) (hi : ρ[i]? = some (.own xs)) (hj : ρ[j]? = some (.own ys)) (ha : EA ar ρ (fun ds => ∃ k : Nat, ds = [.int k] ∧ k < ys.length)) (hl : xs.length < 100000) (hl2 : ys.length ≤ 100000)
    (k : ∀ (k : Nat) y, ys[k]? = some y → p.N ((ρ.set j (.own (ys.eraseIdx k))).set i (.own (xs ++ [y])))) : TT' (tDrop (tBM K "list" rAppend (tVar i) (tCons (tBM K "list" rPopAt (tVar j) ar) tNil))) ρ p := fun W0 W σ E Dd nx rt bk ct => by
  obtain ⟨l, vs, hv, h1, _⟩ := E.mut (ds' := []) hi
  obtain ⟨l2, vs2, hv2, h2, _⟩ := E.mut (ds' := []) hj
  refine ⟨.ref l, hv, .inl ⟨rfl, _, sq_l h1⟩, .ref l2, hv2, .inl ⟨rfl, _, sq_l h2⟩, ?_⟩
  refine ha W0 W σ E _ fun ws ds W1 g1 r1 ⟨n, e, hn⟩ => ?_
  subst e
  cases r1 with
  | cons ra rr =>
    cases rr
    cases ra
    have hy : ys[n]? = some ys[n] := List.getElem?_eq_getElem hn
    obtain ⟨l', us, hu, q1, _, rj, z⟩ := (E.grow g1).mut (ds' := ys.eraseIdx n) hj
    rw [hv2] at hu
    cases hu
    obtain ⟨y, e3, ry⟩ := rj.get hy
    obtain ⟨W2, a1, a2, E2⟩ := z _ (reps_erase n rj)
    have hlen := rj.len
    refine ⟨l2, us, n, n, y, rfl, rfl, q1, by omega, by omega, ?_, e3, ?_⟩
    · rw [seqIndex_of (by omega) (by omega)]
      simp
    · have hi' : (ρ.set j (.own (ys.eraseIdx n)))[i]? = some (.own xs) := by rw [List.getElem?_set_ne hij.symm]; exact hi
      obtain ⟨l4, us4, hu4, q4, _, r4, z4⟩ := E2.mut (ds' := xs ++ [ys[n]]) hi'
      rw [hv] at hu4
      cases hu4
      have hlen4 := r4.len
      rw [a2] at q4
      obtain ⟨W3, b1, b2, E3⟩ := z4 (us4 ++ [y]) (r4.app (.cons (by rw [a1]; exact ry) .nil))
      refine ⟨l, us4, y, rfl, rfl, q4, Evl.sz_lt (by omega), ?_⟩
      rw [← a2, ← b2]
      exact nx σ W3 _ E3 (by rw [b1, a1]; exact g1.b) (k n _ hy)
/-! two at once -/
theorem t_par {i j : Nat} {P1 P2 : En → Prop} (h1 : EV ta ρ P1) (h2 : EV tb ρ P2) (k : ∀ a b, P1 a → P2 b → p.N ((ρ.set i a).set j b)) : TT' (tPar i j (tCons ta (tCons tb tNil))) ρ p := fun W0 W σ E Dd nx rt bk ct =>
  h1 W0 W σ E _ fun v a W1 g1 r1 p1 => h2 W0 W1 σ (E.grow g1) _ fun w b W2 g2 r2 p2 => ⟨v, w, rfl, nx _ W2 _ ((E.set g1 r1 i).set g2 r2 j) (g1.b.tr g2.b) (k a b p1 p2)⟩
theorem t_unp {i j : Nat} {Q2 : D → D → Prop} (h : ED te ρ (fun d => ∃ x y, d = .tup [x, y] ∧ Q2 x y)) (k : ∀ x y, Q2 x y → p.N ((ρ.set i (.dat x)).set j (.dat y))) : TT' (tAsg te (gTup K 2 (gCons (gName i) (gCons (gName j) gNil)))) ρ p := fun W0 W σ E Dd nx rt bk ct =>
  h W0 W σ E _ fun v d W1 g1 r1 ⟨x, y, e, q⟩ => by
    subst e
    cases r1 with
    | tup ha hr =>
      rename_i a ws
      cases hr with
      | cons rx rr =>
        cases rr with
        | cons ry rr =>
          cases rr
          refine ⟨a, _, rfl, sq_t (W1.le _ _ ha), rfl, _, _, rfl, _, _, rfl, rfl, ?_⟩
          exact nx _ W1 _ ((E.set g1 (e := .dat x) rx i).set (Grow.refl W1) (e := .dat y) ry j) g1.b (k x y q)
theorem t_drop (h : EV te ρ P) (k : p.N ρ) : TT' (tDrop te) ρ p := fun W0 W σ E Dd nx _ _ _ => h W0 W σ E _ fun v e W' g r q => nx σ W' ρ (E.grow g) g.b k
end
/-! ### a def by its body -/
theorem fn_body {Rg : List D → (En → Prop) → Prop} {N : List Str} {vs : List V} {H : Hp} {Q : VK} {X : XK} {t : TS} (h : SpE Rg vs H Q X) (hn : vs.length ≤ N.length)
    (k : ∀ ds P, Rg ds P → ds.length = vs.length → TT' t (ds.map En.dat ++ List.replicate (N.length - ds.length) .un) { N := fun _ => P (.dat .non), R := P }) : t { nx := fun _ H' => Q .non H', rt := Q } (start N vs) H := by
  obtain ⟨W, ds, P, rfl, r, hr, q⟩ := h
  have hl := r.len
  refine k ds P hr hl.symm W W (start N vs) ⟨Grow.refl W, ?_, fun i e hi hne => ?_, fun i j e1 e2 l h1 _ t1 _ _ _ => ?_⟩ _ (fun σ' W' ρ' E' _ n => q .non (.dat .non) W' E'.g (show Rep W'.b .non .non from .non) n) (fun v e W' g r n => q v e W' g r n) (fun _ _ _ _ _ z => z.elim) (fun _ _ _ _ _ z => z.elim)
  · simp [L2.start]; omega
  · rcases Nat.lt_or_ge i ds.length with hlt | hge
    · rw [List.getElem?_append_left (by simpa using hlt), List.getElem?_map] at hi
      have hd : ds[i]? = some ds[i] := List.getElem?_eq_getElem hlt
      rw [hd] at hi
      cases hi
      obtain ⟨v, hv, rv⟩ := r.get hd
      refine ⟨v, ?_, rv⟩
      unfold L2.start
      rw [List.getElem?_append_left (by simp; omega), List.getElem?_map, hv]
      rfl
    · rw [List.getElem?_append_right (by simpa using hge), List.getElem?_replicate] at hi
      split at hi
      · cases hi; exact absurd rfl hne
      · cases hi
  · rcases Nat.lt_or_ge i ds.length with hlt | hge
    · rw [List.getElem?_append_left (by simpa using hlt), List.getElem?_map] at h1
      have hd : ds[i]? = some ds[i] := List.getElem?_eq_getElem hlt
      rw [hd] at h1
      cases h1
      cases t1
    · rw [List.getElem?_append_right (by simpa using hge), List.getElem?_replicate] at h1
      split at h1 <;> cases h1
      cases t1
end Nt

namespace Nt
open PySem PySem.Spec PyProof.Rows L2
/-! ### operations that serve several kinds -/
theorem OpR.or {X : Cx} {f : Value → Value → Sem Value} {r r' : R2} (h : OpR X f r) (h' : OpR X f r') : OpR X f (fun x y H Q => r x y H Q ∨ r' x y H Q) := fun pins s σ H x y v u Q I a b q => q.elim (h pins s σ H x y v u Q I a b) (h' pins s σ H x y v u Q I a b)
theorem CallR.or {X : Cx} {f : Value} {r r' : List V → Hp → VK → Prop} (h : CallR X f r) (h' : CallR X f r') : CallR X f (fun x H Q => r x H Q ∨ r' x H Q) := fun pins s σ H xs us Q I a q => q.elim (h pins s σ H xs us Q I a) (h' pins s σ H xs us Q I a)
def rAddI : R2 := rI0 fun i j => .int (i + j)
def rAddS : R2 := fun x y H Q => ∃ i j : Str, x = .str i ∧ y = .str j ∧ i.length + j.length ≤ sizeLine ∧ Q (.str (i ++ j)) H
def rPlus : R2 := fun x y H Q => rAddI x y H Q ∨ rAddS x y H Q ∨ rCat x y H Q
theorem op_plus {X : Cx} : OpR X (binaryOp .Add) rPlus := OpR.or op_add (OpR.or op_add_str op_cat)
def rMulS : R2 := fun x y H Q => ∃ (z : Str) (n : Int), x = .str z ∧ y = .int n ∧ 0 ≤ n ∧ n ≤ 100000 ∧ z.length ≤ 100 ∧ Q (.str ⟨((List.replicate n.toNat z.cps.toList).flatten).toArray⟩) H
theorem foldl_cat (z : Array Nat) : ∀ (n : Nat) (acc : Array Nat), ((List.replicate n z).foldl (· ++ ·) acc).toList = acc.toList ++ (List.replicate n z.toList).flatten
  | 0, acc => by simp
  | n + 1, acc => by
    rw [List.replicate_succ, List.foldl_cons, foldl_cat z n, List.replicate_succ, List.flatten_cons]
    simp
theorem txt_mul (z : Str) (n : Int) (h : 0 ≤ n) : Txt.mul z n = ⟨((List.replicate n.toNat z.cps.toList).flatten).toArray⟩ := by
  unfold Txt.mul
  by_cases h1 : n < 1
  · have e : n = 0 := by omega
    subst e
    rw [if_pos (by omega)]
    rfl
  · rw [if_neg h1]
    by_cases h2 : (n == 1 || z.length == 0) = true
    · rw [if_pos h2]
      rw [Bool.or_eq_true, beq_iff_eq, beq_iff_eq] at h2
      rcases h2 with e | e
      · subst e
        obtain ⟨c⟩ := z
        simp [List.replicate]
      · obtain ⟨c⟩ := z
        have e' : c = #[] := Array.eq_empty_of_size_eq_zero e
        subst e'
        have : ∀ m : Nat, (List.replicate m ([] : List Nat)).flatten = [] := fun m => by simp
        simp [this]
    · rw [if_neg h2]
      congr 1
      apply Array.ext'
      rw [foldl_cat]
      simp
theorem op_mulS {X : Cx} : OpR X (binaryOp .Mult) rMulS := by
  intro pins s σ H x y v u Q I rx ry ⟨z, n, e1, e2, h0, h1, h2, q⟩
  subst e1 e2
  obtain ⟨t, rfl⟩ := rx
  obtain ⟨t', rfl⟩ := ry
  have hz : ∀ m : Nat, m ≤ 100000 → Builtin.Str.tooLong (z.length * m) = false := fun m hm => by
    have : z.length * m ≤ 100 * 100000 := Nat.mul_le_mul h2 hm
    unfold Builtin.Str.tooLong
    simp only [decide_eq_false_iff_not, sizeLine_eq]
    omega
  refine PySem.SB.mul ⟨?_, fun a b => ?_, fun a b => hz _ (by omega)⟩ fun t2 k => ⟨.str (Txt.mul z n), H, I.tok _, ⟨t2, rfl⟩, by rw [txt_mul z n h0]; exact q⟩
  · simp only [Bool.or_eq_false_iff, decide_eq_false_iff_not]; constructor <;> omega
  · have h3 : (100 : Int) ≤ (2 ^ 63 - 1) / n := (Int.le_ediv_iff_mul_le (by omega)).mpr (by omega)
    omega
def rTimes : R2 := fun x y H Q => rI CMulW (fun i j => .int (i * j)) x y H Q ∨ rMulS x y H Q ∨ rI CMul (fun i j => .int (i * j)) x y H Q
theorem op_times {X : Cx} : OpR X (binaryOp .Mult) rTimes := OpR.or op_mulW (OpR.or op_mulS op_mul)
def rEqU (K : PySem.W.Frag) : R2 := fun x y H Q => rEq x y H Q ∨ rEqD K x y H Q
def rNeU (K : PySem.W.Frag) : R2 := fun x y H Q => rNe x y H Q ∨ rNeD K x y H Q
theorem op_eqU {X : Cx} (hu : X.A.units + 64 < cLine) : OpR X (compareOp .Eq) (rEqU X.K) := OpR.or op_eq (op_eqD hu)
theorem op_neU {X : Cx} (hu : X.A.units + 64 < cLine) : OpR X (compareOp .NotEq) (rNeU X.K) := OpR.or op_ne (op_neD hu)
def rSgn (neg : Bool) : R2 := fun x y H Q => ∃ (c : Nat) (z : Str), x = .str ⟨#[c]⟩ ∧ y = .str z ∧ Q (.bl (if neg then !decide (c ∈ z.cps.toList) else decide (c ∈ z.cps.toList))) H
def rInU (K : PySem.W.Frag) (neg : Bool) : R2 := fun x y H Q => rSgn neg x y H Q ∨ rIn K neg x y H Q
theorem op_inU {X : Cx} : OpR X (compareOp .In) (rInU X.K false) := OpR.or op_in_sign op_in_seq
theorem op_notInU {X : Cx} : OpR X (compareOp .NotIn) (rInU X.K true) := OpR.or op_notIn_sign op_notIn_seq
def rLenQ (K : PySem.W.Frag) : List V → Hp → VK → Prop := fun xs H Q => ∃ (p : Addr) (ys : List V), xs = [.ref p] ∧ (SqL K H p ys ∨ SqT K H p ys) ∧ Q (.int ys.length) H
def rLenT : List V → Hp → VK → Prop := fun xs H Q => ∃ z : Str, xs = [.str z] ∧ z.length ≤ sizeLine ∧ Q (.int z.length) H
def rLenU (K : PySem.W.Frag) : List V → Hp → VK → Prop := fun xs H Q => rLenQ K xs H Q ∨ rLenT xs H Q
theorem call_lenU {X : Cx} : CallR X (.builtin "len") (rLenU X.K) := CallR.or call_len_seq call_len_str
def rSlU (K : PySem.W.Frag) : V → Option Int → Option Int → Hp → VK → Prop := fun x lo hi H Q => rSlL K x lo hi H Q ∨ rSlS x lo hi H Q ∨ L2.rSlT K x lo hi H Q
theorem sl_U {X : Cx} : L2.SlR X (rSlU X.K) := L2.SlR.or sl_list (L2.SlR.or sl_str L2.sl_tup)
/-! ### .. told over data -/
section
variable {K : PySem.W.Frag} {P : En → Prop}
theorem dat1 {W : Wd} {d : D} {v : V} {Q : VK} (r : Rep W.b d v) (q : ∀ u e W', Grow W W' → RepV W W' e u → e = .dat d → Q u W'.h) : Q v W.h := q v (.dat d) W (Grow.refl W) r rfl
theorem own1 {W : Wd} {ds : List D} {vs : List V} {Q : VK} (r : Reps W.b ds vs) (q : ∀ u e W', Grow W W' → RepV W W' e u → e = .own ds → Q u W'.h) : ∀ p, W.h p = none → Q (.ref p) (upd W.h p (.lst vs)) := fun p hp => by
  obtain ⟨a, b⟩ := new_own (Grow.refl W) hp r
  exact q (.ref p) (.own ds) _ a b rfl
theorem od_addI {i j : Int} : OD rPlus (.int i) (.int j) (· = .dat (.int (i + j))) := fun W v w a b Q q => by
  cases a; cases b
  exact .inl ⟨i, j, rfl, rfl, dat1 (.int (i + j)) q⟩
theorem tx_len (s : List Nat) : (⟨s.toArray⟩ : Str).length = s.length := by simp [Str.length]
theorem od_addS {i j : List Nat} (h : i.length + j.length ≤ 100000) : OD rPlus (.str i) (.str j) (· = .dat (.str (i ++ j))) := fun W v w a b Q q => by
  cases a; cases b
  refine .inr (.inl ⟨_, _, rfl, rfl, Evl.sz_of (by rw [tx_len, tx_len]; exact h), ?_⟩)
  have e : (⟨i.toArray⟩ : Str) ++ (⟨j.toArray⟩ : Str) = ⟨(i ++ j).toArray⟩ := by
    show (⟨i.toArray ++ j.toArray⟩ : Str) = _
    simp
  rw [e]
  exact dat1 (.str (i ++ j)) q
theorem od_addL {i j : List D} (h : i.length + j.length ≤ 100000) : OD rPlus (.lst i) (.lst j) (· = .own (i ++ j)) := fun W v w a b Q q => by
  cases a with
  | lst ha ra =>
    cases b with
    | lst hb rb => exact .inr (.inr ⟨_, _, _, _, rfl, rfl, W.le _ _ ha, W.le _ _ hb, Evl.sz_of (by rw [ra.len, rb.len]; exact h), own1 (ra.app rb) q⟩)
theorem od_subI {i j : Int} : OD (rI0 fun i j => .int (i - j)) (.int i) (.int j) (· = .dat (.int (i - j))) := fun W v w a b Q q => by
  cases a; cases b
  exact ⟨i, j, rfl, rfl, dat1 (.int (i - j)) q⟩
theorem od_mulI {i j : Int} (h : CMulW i j) : OD rTimes (.int i) (.int j) (· = .dat (.int (i * j))) := fun W v w a b Q q => by
  cases a; cases b
  exact .inl ⟨i, j, rfl, rfl, h, dat1 (.int (i * j)) q⟩
theorem od_mulS {s : List Nat} {n : Int} (h0 : 0 ≤ n) (h1 : n ≤ 100000) (h2 : s.length ≤ 100) : OD rTimes (.str s) (.int n) (· = .dat (.str (List.replicate n.toNat s).flatten)) := fun W v w a b Q q => by
  cases a; cases b
  exact .inr (.inl ⟨_, n, rfl, rfl, h0, h1, by rw [tx_len]; exact h2, dat1 (.str (List.replicate n.toNat s).flatten) q⟩)
theorem od_modI {i j : Int} (h : j ≠ 0) : OD (rI (fun _ j => j ≠ 0) fun i j => .int (i.fmod j)) (.int i) (.int j) (· = .dat (.int (i.fmod j))) := fun W v w a b Q q => by
  cases a; cases b
  exact ⟨i, j, rfl, rfl, h, dat1 (.int (i.fmod j)) q⟩
theorem od_divI {i j : Int} (h : CDivW i j) : OD (rI CDivW fun i j => .int (i / j)) (.int i) (.int j) (· = .dat (.int (i / j))) := fun W v w a b Q q => by
  cases a; cases b
  exact ⟨i, j, rfl, rfl, h, dat1 (.int (i / j)) q⟩
theorem od_lt {i j : Int} : OD (rI0 fun i j => .bl (decide (i < j))) (.int i) (.int j) (· = .dat (.bl (decide (i < j)))) := fun W v w a b Q q => by
  cases a; cases b
  exact ⟨i, j, rfl, rfl, dat1 (.bl _) q⟩
theorem od_gt {i j : Int} : OD (rI0 fun i j => .bl (decide (j < i))) (.int i) (.int j) (· = .dat (.bl (decide (j < i)))) := fun W v w a b Q q => by
  cases a; cases b
  exact ⟨i, j, rfl, rfl, dat1 (.bl _) q⟩
theorem od_le {i j : Int} : OD (rI0 fun i j => .bl (decide (i ≤ j))) (.int i) (.int j) (· = .dat (.bl (decide (i ≤ j)))) := fun W v w a b Q q => by
  cases a; cases b
  exact ⟨i, j, rfl, rfl, dat1 (.bl _) q⟩
theorem od_ge {i j : Int} : OD (rI0 fun i j => .bl (decide (j ≤ i))) (.int i) (.int j) (· = .dat (.bl (decide (j ≤ i)))) := fun W v w a b Q q => by
  cases a; cases b
  exact ⟨i, j, rfl, rfl, dat1 (.bl _) q⟩
theorem tx_inj {a b : List Nat} : (tx a = tx b) ↔ a = b := by
  constructor
  · intro h
    have h' := V.str.inj h
    have := congrArg (fun z : Str => z.cps.toList) h'
    simpa using this
  · intro h; rw [h]
theorem od_eqS {a b : List Nat} : OD (rEqU K) (.str a) (.str b) (· = .dat (.bl (decide (a = b)))) := fun W v w r r' Q q => by
  cases r; cases r'
  refine .inl ⟨rfl, ?_⟩
  have e : decide (tx a = tx b) = decide (a = b) := decide_eq_decide.mpr tx_inj
  rw [e]
  exact dat1 (.bl _) q
theorem od_neS {a b : List Nat} : OD (rNeU K) (.str a) (.str b) (· = .dat (.bl (!decide (a = b)))) := fun W v w r r' Q q => by
  cases r; cases r'
  refine .inl ⟨rfl, ?_⟩
  have e : decide (tx a = tx b) = decide (a = b) := decide_eq_decide.mpr tx_inj
  rw [e]
  exact dat1 (.bl _) q
theorem od_eqI {a b : Int} : OD (rEqU K) (.int a) (.int b) (· = .dat (.bl (decide (a = b)))) := fun W v w r r' Q q => by
  cases r; cases r'
  refine .inl ⟨rfl, ?_⟩
  have e : decide (V.int a = V.int b) = decide (a = b) := decide_eq_decide.mpr ⟨V.int.inj, congrArg _⟩
  rw [e]
  exact dat1 (.bl _) q
theorem od_neI {a b : Int} : OD (rNeU K) (.int a) (.int b) (· = .dat (.bl (!decide (a = b)))) := fun W v w r r' Q q => by
  cases r; cases r'
  refine .inl ⟨rfl, ?_⟩
  have e : decide (V.int a = V.int b) = decide (a = b) := decide_eq_decide.mpr ⟨V.int.inj, congrArg _⟩
  rw [e]
  exact dat1 (.bl _) q
theorem od_eqB {a b : Bool} : OD (rEqU K) (.bl a) (.bl b) (· = .dat (.bl (decide (a = b)))) := fun W v w r r' Q q => by
  cases r; cases r'
  refine .inl ⟨rfl, ?_⟩
  have e : decide (V.bl a = V.bl b) = decide (a = b) := decide_eq_decide.mpr ⟨V.bl.inj, congrArg _⟩
  rw [e]
  exact dat1 (.bl _) q
theorem od_neB {a b : Bool} : OD (rNeU K) (.bl a) (.bl b) (· = .dat (.bl (!decide (a = b)))) := fun W v w r r' Q q => by
  cases r; cases r'
  refine .inl ⟨rfl, ?_⟩
  have e : decide (V.bl a = V.bl b) = decide (a = b) := decide_eq_decide.mpr ⟨V.bl.inj, congrArg _⟩
  rw [e]
  exact dat1 (.bl _) q
/-- flat data read as the library's data -/
def D.py : D → PyData
  | .bl b => .bool b
  | .int i => .int i
  | .str s => .str ⟨s.toArray⟩
  | _ => .none
theorem py_dp {H H' : Hp} {d : D} {v : V} (f : d.flat = true) (r : Rep H d v) : Dp K H' v d.py := by
  cases r with
  | non => exact .non
  | bl b => exact .bl b
  | int i => exact .int i
  | str s => exact .str _
  | tup _ _ => cases f
  | lst _ _ => cases f
  | bag _ _ _ => cases f
  | scr _ => cases f
  | dic _ _ => cases f
  | obj _ _ => cases f
  | ins _ _ _ => cases f
theorem py_dpall {H H' : Hp} : ∀ {ds : List D} {vs : List V}, (∀ d ∈ ds, d.flat = true) → Reps H ds vs → DpAll K H' vs (ds.map D.py)
  | _, _, _, .nil => .nil
  | _, _, f, .cons h r => .cons (py_dp (f _ List.mem_cons_self) h) (py_dpall (fun d hd => f d (List.mem_cons_of_mem _ hd)) r)
/-- flat, its signs signs -/
def D.ok : D → Bool
  | .non | .bl _ | .int _ => true
  | .str s => s.all (· < 0x110000)
  | _ => false
theorem D.ok.fl {d : D} (h : d.ok = true) : d.flat = true := by
  cases d with
  | tup _ => cases h
  | lst _ => cases h
  | bag => cases h
  | scr _ _ => cases h
  | dic _ => cases h
  | obj _ => cases h
  | ins _ _ => cases h
  | _ => rfl
theorem py_lay {d : D} (h : d.ok = true) : d.py.canLay0 = true := by
  cases d with
  | str s =>
    show PyData.strOk _ = true
    unfold PyData.strOk
    simpa [D.ok] using h
  | _ => rfl
theorem py_layAll : ∀ ds : List D, (∀ d ∈ ds, d.ok = true) → PyData.canLayAll0 (ds.map D.py) = true
  | [], _ => rfl
  | d :: ds, h => by
    show (d.py.canLay0 && PyData.canLayAll0 (ds.map D.py)) = true
    rw [py_lay (h d List.mem_cons_self), py_layAll ds fun x hx => h x (List.mem_cons_of_mem _ hx)]; rfl
theorem py_depth (d : D) : d.py.depth = 0 := by cases d <;> rfl
theorem py_depthAll : ∀ ds : List D, PyData.depthAll (ds.map D.py) = 0
  | [] => rfl
  | d :: ds => by
    show max d.py.depth (PyData.depthAll (ds.map D.py)) = 0
    rw [py_depth, py_depthAll ds]; rfl
theorem py_shaped (ds : List D) (h : ∀ d ∈ ds, d.ok = true) : SeqAt.shaped (.list (ds.map D.py)) = true := by
  unfold SeqAt.shaped
  have h1 : PyData.canLay0 (.list (ds.map D.py)) = true := py_layAll ds h
  have h2 : PyData.depth (.list (ds.map D.py)) = PyData.depthAll (ds.map D.py) + 1 := rfl
  rw [h1, h2, py_depthAll]; rfl
theorem eqv_nil (ds : List D) : PyData.eqv (.list (ds.map D.py)) (.list []) = ds.isEmpty := by
  cases ds with
  | nil => rfl
  | cons d ds => rfl
/-- a list of flat data against the empty one -/
theorem od_eqN {ds : List D} (f : ∀ d ∈ ds, d.ok = true) : OD (rEqU K) (.lst ds) (.lst []) (· = .dat (.bl ds.isEmpty)) := fun W v w r r' Q q => by
  cases r with
  | lst ha ra =>
    cases r' with
    | lst hb rb =>
      cases rb
      refine .inr ⟨.list (ds.map D.py), .list [], .lst (sq_l (W.le _ _ ha)) (py_dpall (fun d hd => D.ok.fl (f d hd)) ra), .lst (sq_l (W.le _ _ hb)) .nil, py_shaped ds f, rfl, ?_⟩
      rw [eqv_nil]
      exact dat1 (.bl _) q
theorem od_neN {ds : List D} (f : ∀ d ∈ ds, d.ok = true) : OD (rNeU K) (.lst ds) (.lst []) (· = .dat (.bl (!ds.isEmpty))) := fun W v w r r' Q q => by
  cases r with
  | lst ha ra =>
    cases r' with
    | lst hb rb =>
      cases rb
      refine .inr ⟨.list (ds.map D.py), .list [], .lst (sq_l (W.le _ _ ha)) (py_dpall (fun d hd => D.ok.fl (f d hd)) ra), .lst (sq_l (W.le _ _ hb)) .nil, py_shaped ds f, rfl, ?_⟩
      rw [eqv_nil]
      exact dat1 (.bl _) q
theorem od_sgn {neg : Bool} {c : Nat} {s : List Nat} : OD (rInU K neg) (.str [c]) (.str s) (· = .dat (.bl (if neg then !decide (c ∈ s) else decide (c ∈ s)))) := fun W v w r r' Q q => by
  cases r; cases r'
  refine .inl ⟨c, _, rfl, rfl, ?_⟩
  show Q (V.bl (if neg then !decide (c ∈ s) else decide (c ∈ s))) W.h
  exact dat1 (.bl _) q
theorem eqV_tx (a b : List Nat) : eqV (tx a) (tx b) = decide (a = b) := by
  show ((⟨a.toArray⟩ : Str) == (⟨b.toArray⟩ : Str)) = decide (a = b)
  have : (⟨a.toArray⟩ : Str) = (⟨b.toArray⟩ : Str) ↔ a = b := by
    constructor
    · intro h; have := congrArg (fun z : Str => z.cps.toList) h; simpa using this
    · intro h; rw [h]
  by_cases h : a = b
  · subst h; simp
  · have h' : ¬ (⟨a.toArray⟩ : Str) = (⟨b.toArray⟩ : Str) := fun z => h (this.mp z)
    simp [h]
theorem in_txs {H : Hp} {s : List Nat} : ∀ {xs : List (List Nat)} {vs : List V}, Reps H (xs.map D.str) vs → inV (tx s) vs = decide (s ∈ xs) ∧ vs.all flatV = true
  | [], _, .nil => ⟨by simp [inV], rfl⟩
  | x :: xs, _, .cons h r => by
    obtain ⟨a, b⟩ := in_txs r
    cases h
    constructor
    · show (eqV (tx x) (tx s) || inV (tx s) _) = _
      rw [a, eqV_tx]
      by_cases e : x = s
      · subst e; simp
      · have e' : ¬ s = x := fun z => e z.symm
        simp [e, e']
    · show (true && _) = true
      rw [b]; rfl
/-- a text in a list of texts -/
theorem od_inL {neg : Bool} {s : List Nat} {xs : List (List Nat)} : OD (rInU K neg) (.str s) (.lst (xs.map D.str)) (· = .dat (.bl (if neg then !decide (s ∈ xs) else decide (s ∈ xs)))) := fun W v w r r' Q q => by
  cases r
  cases r' with
  | lst hb rb =>
    obtain ⟨a, b⟩ := in_txs (s := s) rb
    refine .inr ⟨_, _, rfl, .inl (sq_l (W.le _ _ hb)), rfl, b, ?_⟩
    rw [a]
    exact dat1 (.bl _) q
theorem atI_of {α : Type} {xs : List α} {i : Int} {j : Nat} {v : α} (e : i = (j : Int)) (h : xs[j]? = some v) : atI xs i = some v := by subst e; exact atI_nat h
theorem od_ixL {ds : List D} {i : Int} {j : Nat} {d : D} (e : i = (j : Int)) (h : ds[j]? = some d) : OD (rIx K) (.lst ds) (.int i) (· = .dat d) := fun W v w r r' Q q => by
  cases r'
  cases r with
  | lst ha ra =>
    obtain ⟨u, h1, h2⟩ := ra.get h
    exact .inl ⟨_, _, i, u, rfl, rfl, sq_l (W.le _ _ ha), atI_of e h1, dat1 h2 q⟩
theorem od_ixT {ds : List D} {i : Int} {j : Nat} {d : D} (e : i = (j : Int)) (h : ds[j]? = some d) : OD (rIx K) (.tup ds) (.int i) (· = .dat d) := fun W v w r r' Q q => by
  cases r'
  cases r with
  | tup ha ra =>
    obtain ⟨u, h1, h2⟩ := ra.get h
    exact .inr (.inl ⟨_, _, i, u, rfl, rfl, sq_t (W.le _ _ ha), atI_of e h1, dat1 h2 q⟩)
theorem od_ixS {s : List Nat} {i : Int} {j : Nat} {c : Nat} (e : i = (j : Int)) (h : s[j]? = some c) (hl : s.length ≤ 100000) : OD (rIx K) (.str s) (.int i) (· = .dat (.str [c])) := fun W v w r r' Q q => by
  cases r'
  cases r
  exact .inr (.inr ⟨_, i, c, rfl, rfl, Evl.sz_of (by rw [tx_len]; exact hl), atI_of e h, dat1 (.str [c]) q⟩)
theorem od_ixLlast {ds : List D} {d : D} (h : ds[ds.length - 1]? = some d) : OD (rIx K) (.lst ds) (.int (-1)) (· = .dat d) := fun W v w r r' Q q => by
  cases r'
  cases r with
  | lst ha ra =>
    rename_i a ws
    obtain ⟨u, h1, h2⟩ := ra.get h
    rw [← ra.len] at h1
    refine .inl ⟨a, ws, -1, u, rfl, rfl, sq_l (W.le _ _ ha), ?_, dat1 h2 q⟩
    have hl := (List.getElem?_eq_some_iff.mp h1).1
    have e : ws = ws.dropLast ++ [u] := by
      have hne : ws ≠ [] := fun z => by rw [z] at hl; simp at hl
      have h3 := List.dropLast_concat_getLast hne
      have h4 : ws.getLast hne = u := by
        rw [List.getLast_eq_getElem]
        have := List.getElem?_eq_some_iff.mp h1
        exact this.2
      rw [h4] at h3
      exact h3.symm
    rw [e]
    exact atI_last _ _
theorem cd_lenL {ds : List D} : CD (rLenU K) [.lst ds] (· = .dat (.int ds.length)) := fun W vs r Q q => by
  cases r with
  | cons r rr =>
    cases rr
    cases r with
    | lst ha ra => exact .inl ⟨_, _, rfl, .inl (sq_l (W.le _ _ ha)), by rw [ra.len]; exact dat1 (.int _) q⟩
theorem cd_lenT {ds : List D} : CD (rLenU K) [.tup ds] (· = .dat (.int ds.length)) := fun W vs r Q q => by
  cases r with
  | cons r rr =>
    cases rr
    cases r with
    | tup ha ra => exact .inl ⟨_, _, rfl, .inr (sq_t (W.le _ _ ha)), by rw [ra.len]; exact dat1 (.int _) q⟩
theorem cd_lenSq {x : D} {ds : List D} (s : Sq x ds) : CD (rLenU K) [x] (· = .dat (.int ds.length)) := by
  cases s with
  | lst => exact cd_lenL
  | tup => exact cd_lenT
theorem od_ixSq {x : D} {ds : List D} {i : Int} {j : Nat} {d : D} (s : Sq x ds) (e : i = (j : Int)) (h : ds[j]? = some d) : OD (rIx K) x (.int i) (· = .dat d) := by
  cases s with
  | lst => exact od_ixL e h
  | tup => exact od_ixT e h
theorem od_inT {neg : Bool} {s : List Nat} {xs : List (List Nat)} : OD (rInU K neg) (.str s) (.tup (xs.map D.str)) (· = .dat (.bl (if neg then !decide (s ∈ xs) else decide (s ∈ xs)))) := fun W v w r r' Q q => by
  cases r
  cases r' with
  | tup hb rb =>
    obtain ⟨a, b⟩ := in_txs (s := s) rb
    refine .inr ⟨_, _, rfl, .inr (sq_t (W.le _ _ hb)), rfl, b, ?_⟩
    rw [a]
    exact dat1 (.bl _) q
theorem od_inSq {neg : Bool} {s : List Nat} {xs : List (List Nat)} {x : D} (h : Sq x (xs.map D.str)) : OD (rInU K neg) (.str s) x (· = .dat (.bl (if neg then !decide (s ∈ xs) else decide (s ∈ xs)))) := by
  generalize hy : xs.map D.str = ys at h
  cases h with
  | lst => subst hy; exact od_inL
  | tup => subst hy; exact od_inT
theorem cd_lenS {s : List Nat} (h : s.length ≤ 100000) : CD (rLenU K) [.str s] (· = .dat (.int s.length)) := fun W vs r Q q => by
  cases r with
  | cons r rr =>
    cases rr
    cases r
    refine .inr ⟨_, rfl, Evl.sz_of (by rw [tx_len]; exact h), ?_⟩
    rw [tx_len]
    exact dat1 (.int _) q
def rListC (K : PySem.W.Frag) : List V → Hp → VK → Prop := fun xs H Q => ∃ (p : Addr) (ys : List V), xs = [.ref p] ∧ (SqL K H p ys ∨ SqT K H p ys) ∧ ∀ l, H l = none → Q (.ref l) (upd H l (.lst ys))
theorem call_listC {X : Cx} : CallR X (.type "list") (rListC X.K) := call_list_of
theorem cd_list {ds : List D} : CD (rListC K) [.lst ds] (· = .own ds) := fun W vs r Q q => by
  cases r with
  | cons r rr =>
    cases rr
    cases r with
    | lst ha ra => exact ⟨_, _, rfl, .inl (sq_l (W.le _ _ ha)), own1 ra q⟩
theorem bls_of {H : Hp} : ∀ {bs : List Bool} {vs : List V}, Reps H (bs.map D.bl) vs → vs = bs.map V.bl
  | [], _, .nil => rfl
  | b :: bs, _, .cons h r => by cases h; rw [bls_of r]; rfl
theorem cd_all {bs : List Bool} : CD (rAll K) [.lst (bs.map D.bl)] (· = .dat (.bl (bs.all id))) := fun W vs r Q q => by
  cases r with
  | cons r rr =>
    cases rr
    cases r with
    | lst ha ra => exact ⟨_, bs, rfl, sq_l (by rw [← bls_of ra]; exact W.le _ _ ha), dat1 (.bl _) q⟩
theorem txs_of {H : Hp} : ∀ {xs : List (List Nat)} {vs : List V}, Reps H (xs.map D.str) vs → vs = (xs.map fun s => (⟨s.toArray⟩ : Str)).map V.str
  | [], _, .nil => rfl
  | b :: bs, _, .cons h r => by cases h; rw [txs_of r]; rfl
def rJoin (K : PySem.W.Frag) : V → List V → Hp → VK → Prop := fun x xs H Q => ∃ a p, ∃ ys : List Str, x = .str a ∧ xs = [.ref p] ∧ (SqL K H p (ys.map V.str) ∨ SqT K H p (ys.map V.str)) ∧ (ys.map (·.length)).sum + ys.length * a.length ≤ 16777216 ∧ Q (.str (Txt.join a ys)) H
theorem join0 : ∀ xs : List (List Nat), Txt.join ⟨#[]⟩ (xs.map fun s => (⟨s.toArray⟩ : Str)) = ⟨xs.flatten.toArray⟩ := fun xs => by
  show PySem.Builtin.Str.glued _ _ = _
  rw [PySem.StrLaws.glued_eq_join]
  induction xs with
  | nil => rfl
  | cons x xs ih =>
    rw [List.map_cons]
    have h := PyProof.Rows.join_nil_cons (⟨x.toArray⟩ : Str) (xs.map fun s => (⟨s.toArray⟩ : Str))
    rw [h, ih]
    show (⟨x.toArray ++ xs.flatten.toArray⟩ : Str) = _
    simp
theorem md_join {xs : List (List Nat)} (h : xs.flatten.length ≤ 100000) : MD (rJoin K) (.str []) [.lst (xs.map D.str)] (· = .dat (.str xs.flatten)) := fun W v vs r rs Q q => by
  cases r
  cases rs with
  | cons r rr =>
    cases rr
    cases r with
    | lst ha ra =>
      refine ⟨⟨#[]⟩, _, xs.map fun s => (⟨s.toArray⟩ : Str), rfl, rfl, .inl (sq_l (by rw [← txs_of ra]; exact W.le _ _ ha)), ?_, ?_⟩
      · have e : ((xs.map fun s => (⟨s.toArray⟩ : Str)).map (·.length)).sum = xs.flatten.length := by
          rw [List.map_map, List.length_flatten]
          have e2 : (fun x : Str => x.length) ∘ (fun s : List Nat => (⟨s.toArray⟩ : Str)) = List.length := funext fun s => tx_len s
          rw [e2]
        rw [e]
        have z : (⟨#[]⟩ : Str).length = 0 := rfl
        rw [z, Nat.mul_zero]
        omega
      · rw [join0]
        exact dat1 (.str xs.flatten) q
theorem ud_neg {i : Int} : UD (rU fun i => .int (-i)) (.int i) (· = .dat (.int (-i))) := fun W v r Q q => by
  cases r
  exact ⟨i, rfl, dat1 (.int _) q⟩
end
end Nt

namespace Nt
open PySem PySem.Spec PyProof.Rows L2
section
variable {K : PySem.W.Frag} {ta tb te : TE} {tt tu : TT} {tl th : TO} {ar : TA} {ρ : List En} {PA : D → Prop} {R : En → Prop}
/-! ### slices -/
def SD (r : V → Option Int → Option Int → Hp → VK → Prop) (x : D) (lo hi : Option Int) (P : En → Prop) : Prop := ∀ (W : Wd) v, Rep W.b x v → ∀ Q : VK, (∀ u e W', Grow W W' → RepV W W' e u → P e → Q u W'.h) → r v lo hi W.h Q
theorem eo_part {i : Int} (h : ED te ρ (· = .int i)) : EO (tPart te) ρ (· = some i) := fun W0 W σ E Q q => h W0 W σ E _ fun v d W' g r p => by subst p; cases r; exact ⟨i, rfl, q _ W' g rfl⟩
theorem e_sl {r : V → Option Int → Option Int → Hp → VK → Prop} {x : D} {lo hi : Option Int} (h : ED te ρ (· = x)) (hl : EO tl ρ (· = lo)) (hh : EO th ρ (· = hi)) (hr : SD r x lo hi R) : EV (tSl r te tl th) ρ R := fun W0 W σ E Q q =>
  h W0 W σ E _ fun v d W1 g1 r1 p1 => by
    subst p1
    refine hl W0 W1 σ (E.grow g1) _ fun o W2 g2 e2 => ?_
    subst e2
    refine hh W0 W2 σ ((E.grow g1).grow g2) _ fun o W3 g3 e3 => ?_
    subst e3
    exact hr W3 v ((r1.mono g2.b).mono g3.b) Q fun u e W4 g4 r4 p4 => q u e W4 (((g1.trans g2).trans g3).trans g4) (r4.back ((g1.trans g2).trans g3).h) p4
def cutN {α : Type} (xs : List α) (lo hi : Option Int) : List α := (xs.drop (HT.sIx xs.length 0 lo)).take (HT.sIx xs.length xs.length hi - HT.sIx xs.length 0 lo)
theorem sd_str {s : List Nat} {lo hi : Option Int} (h : s.length ≤ 100000) : SD (rSlU K) (.str s) lo hi (· = .dat (.str (cutN s lo hi))) := fun W v r Q q => by
  cases r
  refine .inr (.inl ⟨_, rfl, Evl.sz_of (by rw [tx_len]; exact h), ?_⟩)
  have e : V.str (cutS ⟨s.toArray⟩ lo hi) = tx (cutN s lo hi) := by
    unfold cutS cutN tx
    rw [tx_len]
  rw [e]
  exact dat1 (.str (cutN s lo hi)) q
theorem sd_lst {ds : List D} {lo hi : Option Int} : SD (rSlU K) (.lst ds) lo hi (· = .own (cutN ds lo hi)) := fun W v r Q q => by
  cases r with
  | lst ha ra =>
    rename_i a ws
    refine .inl ⟨a, ws, rfl, sq_l (W.le _ _ ha), ?_⟩
    unfold cutV
    rw [ra.len]
    exact own1 ((ra.drop _).take _) q
theorem sd_tup {ds : List D} {lo hi : Option Int} (hne : ¬ (HT.sIx ds.length 0 lo = 0 ∧ HT.sIx ds.length ds.length hi = ds.length)) : SD (rSlU K) (.tup ds) lo hi (· = .dat (.tup (cutN ds lo hi))) := fun W v r Q q => by
  cases r with
  | tup ha ra =>
    rename_i a ws
    refine .inr (.inr ⟨a, ws, rfl, sq_t (W.le _ _ ha), by rw [ra.len]; exact hne, fun p hp => ?_⟩)
    have e : Reps W.b (cutN ds lo hi) (cutV ws lo hi) := by
      unfold cutV cutN
      rw [ra.len]
      exact (ra.drop _).take _
    exact q (.ref p) (.dat (.tup (cutN ds lo hi))) (W.put p _) (Grow.put hp) (.tup upd_same (e.mono (Ex.nw (W.le.none' hp)))) rfl
theorem reps_int {H : Hp} : ∀ ns : List Int, Reps H (ns.map D.int) (ns.map V.int)
  | [] => .nil
  | n :: ns => .cons (.int n) (reps_int ns)
theorem cutV_int (ns : List Int) (lo hi : Option Int) : cutV (ns.map V.int) lo hi = (cutN ns lo hi).map V.int := by
  unfold cutV cutN
  rw [List.length_map, List.map_take, List.map_drop]
theorem sd_scr {ns : List Int} {lo hi : Option Int} : SD (rSlU K) (.scr K ns) lo hi (· = .own ((cutN ns lo hi).map D.int)) := fun W v r Q q => by
  cases r with
  | scr h =>
    refine .inl ⟨_, _, rfl, Evl.ex_l W.le h, ?_⟩
    rw [cutV_int]
    exact own1 (reps_int _) q
theorem cut_to {α : Type} {xs : List α} {i : Int} {k : Nat} (e : i = k) (h : k ≤ xs.length) : cutN xs none (some i) = xs.take k := by
  subst e
  unfold cutN
  rw [HT.sIx_none, HT.sIx_nat, List.drop_zero, Nat.min_eq_left h, Nat.sub_zero]
theorem cut_from {α : Type} {xs : List α} {i : Int} {k : Nat} (e : i = k) (h : k ≤ xs.length) : cutN xs (some i) none = xs.drop k := by
  subst e
  unfold cutN
  rw [HT.sIx_none, HT.sIx_nat, Nat.min_eq_left h]
  exact List.take_of_length_le (by simp)
theorem e_rev {ds : List D} (h : ED te ρ (· = .lst ds)) : EV (tRevL K te) ρ (· = .own ds.reverse) := fun W0 W σ E Q q => h W0 W σ E _ fun v d W1 g1 r1 p1 => by
  subst p1
  cases r1 with
  | lst ha ra =>
    refine ⟨_, _, rfl, sq_l (W1.le _ _ ha), fun p hp => ?_⟩
    obtain ⟨a, b⟩ := new_own g1 hp ra.rev
    exact q (.ref p) (.own ds.reverse) _ a b rfl
/-! ### isinstance -/
def D.ty : D → String
  | .non => "NoneType"
  | .bl _ => "bool"
  | .int _ => "int"
  | .str _ => "str"
  | .tup _ => "tuple"
  | .lst _ => "list"
  | .bag => "list"
  | .scr _ _ => "list"
  | .dic _ => "dict"
  | .obj _ => "object"
  | .ins _ _ => "object"
/-- no list that is not of the program's own -/
def D.pl : D → Bool
  | .bag | .scr _ _ | .obj _ | .ins _ _ => false
  | _ => true
theorem ty_of {H H' : Hp} {d : D} {v : V} (nb : d.pl = true) (e : Ex H H') (r : Rep H d v) : TyX K H' v (.type d.ty) := by
  cases r with
  | non => exact .base .non
  | bl b => exact .base (.bl b)
  | int i => exact .base (.int i)
  | str s => exact .base (.str _)
  | tup h _ => exact .base (.tup (e _ _ h))
  | lst h _ => exact .base (.lst (e _ _ h))
  | bag _ _ _ => cases nb
  | scr _ => cases nb
  | dic h _ => exact .base (.dK (e _ _ h))
  | obj _ _ => cases nb
  | ins _ _ _ => cases nb
theorem e_isi {d : D} {T : String} {b : Bool} (h : ED te ρ (· = d)) (nb : d.pl = true) (hk : kitB d.ty T = some b) : ED (tCB (rIsi K) (tCons te (tCons (tC (.ty T)) tNil))) ρ (· = .bl b) := fun W0 W σ E Q q => h W0 W σ E _ fun v x W1 g1 r1 p1 => by
  subst p1
  exact ⟨v, .ty T, .type x.ty, .type T, b, rfl, .ty T, ty_of nb W1.le r1, kit_ty hk, q _ _ W1 g1 (.bl b) rfl⟩
theorem kit_any2 {a b c : String} {x y : Bool} (h1 : kitB a b = some x) (h2 : kitB a c = some y) : PySem.W.kitAny K (.type a) [.type b, .type c] = some (x || y) := by
  refine kitAny_cons (kit_ty h1) (fun e => ?_) (fun e => by rw [e]; rfl)
  subst e
  exact kitAny_cons (kit_ty h2) (fun e => by subst e; exact kitAny_nil) (fun e => by subst e; rfl)
theorem e_isi2 {d : D} {T U : String} {x y : Bool} (h : ED te ρ (· = d)) (nb : d.pl = true) (h1 : kitB d.ty T = some x) (h2 : kitB d.ty U = some y) :
    ED (tCB (rIsiT K) (tCons te (tCons (tTup (tCons (tC (.ty T)) (tCons (tC (.ty U)) tNil))) tNil))) ρ (· = .bl (x || y)) := fun W0 W σ E Q q => h W0 W σ E _ fun v d' W1 g1 r1 p1 => by
  subst p1
  refine ⟨by show 2 ≤ sizeLine; decide, fun p hp => ?_⟩
  have g2 := Grow.add (W := W1) (o := .tup [.ty T, .ty U]) hp
  exact ⟨v, p, [.ty T, .ty U], .type d'.ty, [.type T, .type U], _, rfl, upd_same, .cons (.ty T) (.cons (.ty U) .nil), ty_of nb (W1.add p (.tup [.ty T, .ty U]) hp).le r1, kit_any2 h1 h2, q _ _ (W1.add p (.tup [.ty T, .ty U]) hp) (g1.trans g2) (.bl _) rfl⟩
/-! ### None -/
def D.isN : D → Bool
  | .non => true
  | _ => false
theorem isN_of {H : Hp} {d : D} {v : V} (r : Rep H d v) : decide (v = .non) = d.isN := by
  cases r <;> simp [D.isN, tx]
def rIsNU : R2 := fun x y H Q => y = .non ∧ Q (.bl (decide (x = .non))) H
def rNotNU : R2 := fun x y H Q => y = .non ∧ Q (.bl (!decide (x = .non))) H
theorem op_isNU {X : Cx} : OpR X (compareOp .Is) rIsNU := op_isN
theorem op_notNU {X : Cx} : OpR X (compareOp .IsNot) rNotNU := op_notN
theorem od_isN {d : D} : OD rIsNU d .non (· = .dat (.bl d.isN)) := fun W v w r r' Q q => by
  cases r'
  refine ⟨rfl, ?_⟩
  rw [isN_of r]
  exact dat1 (.bl _) q
theorem od_notN {d : D} : OD rNotNU d .non (· = .dat (.bl (!d.isN))) := fun W v w r r' Q q => by
  cases r'
  refine ⟨rfl, ?_⟩
  rw [isN_of r]
  exact dat1 (.bl _) q
/-! ### truth -/
def tTru (K : PySem.W.Frag) (ta : TE) : TT := fun σ H Q => ta σ H fun x H' => ∃ k, TruV K x H' k ∧ Q k H'
theorem et_tru {ds : List D} (h : ED te ρ (· = .lst ds)) : ET (tTru K te) ρ (· = !ds.isEmpty) := fun W0 W σ E Q q => h W0 W σ E _ fun v d W1 g1 r1 p1 => by
  subst p1
  cases r1 with
  | lst ha ra =>
    refine ⟨_, .inl ⟨_, sq_l (W1.le _ _ ha), rfl⟩, q _ W1 g1 ?_⟩
    cases ra <;> rfl
theorem pe_joinU {X : Cx} {o e : Expr} {to te : TE} {apos pos : Pos} (ho : PE X o to) (he : PE X e te) (hs : starEach [e] X.env = [(false, eval e X.env)] := by rfl) (hbase : attributeBase o "join" X.env (eval o X.env) = eval o X.env := by rfl) (hline : (apos.endLine == pos.line) = true := by rfl) :
    PE X (.Call (.Attribute o "join" apos) [e] [] pos) (tM1 (rJoin X.K) to te) := pe_join ho he hs hbase hline
theorem pt_tru {X : Cx} {a : Expr} {ta : TE} (ha : PE X a ta) (he : ∀ whole, isTrue a X.env whole = (do let v ← whole; standAt a.pos; holding [v] (truthy v)) := by intro _; rfl) : PT X a (tTru X.K ta) := pt_truth ha he
/-! ### str(n), int(n), abs(n) -/
def rStrI : List V → Hp → VK → Prop := fun xs H Q => ∃ i : Int, xs = [.int i] ∧ i.natAbs.log2 < 1920 ∧ Q (.str (toString i)) H
theorem call_strI {X : Cx} : CallR X (.type "str") rStrI := call_str_int
theorem digit_str : ∀ n : Nat, n < 10 → ((toString (n : Int) : Str)).cps.toList = [48 + n] := by
  intro n hn
  have : n = 0 ∨ n = 1 ∨ n = 2 ∨ n = 3 ∨ n = 4 ∨ n = 5 ∨ n = 6 ∨ n = 7 ∨ n = 8 ∨ n = 9 := by omega
  rcases this with e | e | e | e | e | e | e | e | e | e <;> (subst e; decide +kernel)
theorem cd_digit {n : Nat} (h : n < 10) : CD rStrI [.int n] (· = .dat (.str [48 + n])) := fun W vs r Q q => by
  cases r with
  | cons r rr =>
    cases rr
    cases r
    refine ⟨n, rfl, ?_, ?_⟩
    · have h2 : (n : Int).natAbs.log2 ≤ n := by
        rw [Int.natAbs_natCast]
        exact Nat.log2_le_self n
      omega
    · rw [tx_eq, digit_str n h]
      exact dat1 (.str [48 + n]) q
def rIntI : List V → Hp → VK → Prop := fun xs H Q => (∃ i : Int, xs = [.int i] ∧ Q (.int i) H) ∨ ∃ k : Bool, xs = [.bl k] ∧ Q (.int (if k then 1 else 0)) H
theorem call_intI {X : Cx} : CallR X (.type "int") rIntI := call_int1
theorem cd_int {i : Int} : CD rIntI [.int i] (· = .dat (.int i)) := fun W vs r Q q => by
  cases r with
  | cons r rr =>
    cases rr
    cases r
    exact .inl ⟨i, rfl, dat1 (.int i) q⟩
def rAbsI : List V → Hp → VK → Prop := fun xs H Q => ∃ i : Int, xs = [.int i] ∧ Q (.int (if i < 0 then -i else i)) H
theorem call_absI {X : Cx} : CallR X (.builtin "abs") rAbsI := call_abs
theorem cd_abs {i : Int} : CD rAbsI [.int i] (· = .dat (.int (if i < 0 then -i else i))) := fun W vs r Q q => by
  cases r with
  | cons r rr =>
    cases rr
    cases r
    exact ⟨i, rfl, dat1 (.int _) q⟩
end
/-! ### the same heap, read otherwise -/
structure Rty (H H' : Hp) : Prop where
  non : ∀ b, H b = none → H' b = none
  tup : ∀ b xs, H b = some (.tup xs) → H' b = some (.tup xs)
  frz : ∀ b o u, H b = some (.frz o u) → H' b = some (.frz o u)
  tbl : ∀ b ps, H b = some (.tbl ps) → H' b = some (.tbl ps)
theorem fn_rty {P : Program} {w : World} {K : PySem.W.Frag} {mg : Str → Option Value} {base : Heap} {k : Nat} {f : Addr} {fd : FuncData} {ps : List Str} {sp sp' : Sp} (F : FnOk P w K mg base CX0 k f fd ps sp) (len : ∀ vs H Q E, sp' vs H Q E → vs.length = ps.length)
    (h : ∀ vs H Q E hp, sp' vs H Q E → HOk P w H hp → ∃ H1, Rty H H1 ∧ HOk P w H1 hp ∧ sp vs H1 (fun v H' => ∀ hp', HOk P w H' hp' → ∃ H'', Rty H' H'' ∧ HOk P w H'' hp' ∧ Q v H'') E) : FnOk P w K mg base CX0 k f fd ps sp' := by
  refine ⟨len, fun A outer s H args us vs Q E hr he hb hv hsp => ?_⟩
  obtain ⟨H1, t, ok, q⟩ := h vs H Q E s.heap hsp he.hok
  refine codeAny_mono (F.run A outer s H1 args us vs _ E hr ⟨he.frames, he.mod, fun b o e => ⟨(he.bs b o e).1, t.non b (he.bs b o e).2⟩, he.bsz, he.funs, fun b hb => t.non b (he.frf b hb), ok, he.bare⟩ hb hv q) fun r s' hq => ?_
  cases r with
  | error e => exact hq
  | ok fl =>
    cases fl with
    | ret u =>
      obtain ⟨v, H', a1, a2, un, ok', r1, z⟩ := hq
      obtain ⟨H'', t2, ok2, q2⟩ := z s'.heap ok'
      exact ⟨v, H'', a1, a2, ⟨fun b o x y => un.keep b o x (t.non b y), fun b o x y => un.slot b o x (t.non b y), fun b o x y n => t2.non b (un.free b o x (t.non b y) n), un.there, fun b xs x => t2.tup b xs (un.tups b xs (t.tup b xs x)), fun b o u x => t2.frz b o u (un.frzs b o u (t.frz b o u x)), fun b ps x => by
        obtain ⟨m, y⟩ := un.tbls b ps (t.tbl b ps x)
        exact ⟨m, t2.tbl b _ y⟩⟩, ok2, r1, q2⟩
    | next => exact hq.elim
    | brk => exact hq.elim
    | cont => exact hq.elim
theorem bag_ne {b c : Addr} {u : HO} (h : ∀ φ, u ≠ .ext φ) : bagO b c ≠ u := fun e => h _ e.symm
theorem rty_upd {H : Hp} {b : Addr} {o u : HO} (h : H b = some o) (n1 : ∀ xs, o ≠ .tup xs) (n2 : ∀ a v, o ≠ .frz a v) (n3 : ∀ ps, o ≠ .tbl ps) : Rty H (upd H b u) :=
  ⟨fun a e => by rw [upd_ne (fun z => by rw [z, h] at e; cases e)]; exact e, fun a xs e => by rw [upd_ne (fun z => by rw [z, h] at e; exact n1 xs (Option.some.inj e))]; exact e,
    fun a o' v e => by rw [upd_ne (fun z => by rw [z, h] at e; exact n2 o' v (Option.some.inj e))]; exact e, fun a ps e => by rw [upd_ne (fun z => by rw [z, h] at e; exact n3 ps (Option.some.inj e))]; exact e⟩
theorem hok_upd {P : Program} {w : World} {H : Hp} {hp : Heap} {b : Addr} {o u : HO} (ok : HOk P w H hp) (h : H b = some o) (n1 : ∀ xs, o ≠ .tup xs) (n2 : ∀ a, o ≠ .own a) (new : ObjOk P w (upd H b u) hp b u) : HOk P w (upd H b u) hp := fun a q e => by
  by_cases z : a = b
  · subst z; rw [upd_same] at e; cases e; exact new
  · rw [upd_ne z] at e
    exact (ok a q e).stay (fun _ _ _ y => y) (fun c y => by rw [upd_ne (fun z => by rw [z, h] at y; exact n2 a (Option.some.inj y))]; exact y) (fun c xs y => by rw [upd_ne (fun z => by rw [z, h] at y; exact n1 xs (Option.some.inj y))]; exact y)
/-- the bag's list -/
def bagL (c : Addr) (i r m n : Int) : HO := .lst [.ref c, .int i, .int r, .int m, .int n]
theorem bag_out {P : Program} {w : World} {H : Hp} {hp : Heap} {b c : Addr} (ok : HOk P w H hp) (h : H b = some (bagO b c)) :
    ∃ i r m n, 0 ≤ i ∧ 0 ≤ r ∧ 0 ≤ m ∧ m < 2147483648 ∧ Rty H (upd H b (bagL c i r m n)) ∧ HOk P w (upd H b (bagL c i r m n)) hp := by
  have q : ObjOk P w H hp b (.ext _) := ok b _ h
  obtain ⟨⟨i, r, m, n, its, nn, v, e, h1, h2, h3, h4⟩, _, _⟩ := q
  have ne : ∀ {u : HO}, (∀ φ, u ≠ .ext φ) → bagO b c ≠ u := fun h => bag_ne h
  exact ⟨i, r, m, n, h1, h2, h3, h4, rty_upd h (fun xs => ne fun _ z => nomatch z) (fun a v => ne fun _ z => nomatch z) (fun ps => ne fun _ z => nomatch z), hok_upd ok h (fun xs => ne fun _ z => nomatch z) (fun a => ne fun _ z => nomatch z) ⟨by show 5 ≤ sizeLine; decide, its, nn, v, e⟩⟩
theorem bag_in {P : Program} {w : World} {H : Hp} {hp : Heap} {b c : Addr} {i r m n : Int} (ok : HOk P w H hp) (h : H b = some (bagL c i r m n)) (h1 : 0 ≤ i) (h2 : 0 ≤ r) (h3 : 0 ≤ m) (h4 : m < 2147483648) :
    Rty H (upd H b (bagO b c)) ∧ HOk P w (upd H b (bagO b c)) hp := by
  have q : ObjOk P w H hp b (.lst [.ref c, .int i, .int r, .int m, .int n]) := ok b _ h
  obtain ⟨_, its, nn, v, e⟩ := q
  refine ⟨rty_upd h (fun xs z => nomatch z) (fun a v z => nomatch z) (fun ps z => nomatch z), hok_upd ok h (fun xs z => nomatch z) (fun a z => nomatch z) ⟨⟨i, r, m, n, its, nn, v, e, h1, h2, h3, h4⟩, ⟨_, e⟩, fun hp1 hp2 ⟨i, r, m, n, its, nn, v, e, y⟩ k => ⟨i, r, m, n, its, nn, v, k _ e, y⟩⟩⟩
end Nt

namespace Nt
open PySem PySem.Spec PyProof.Rows L2
theorem take_step {α : Type} {l : List α} {i : Nat} {x : α} (h : l[i]? = some x) : l.take (i + 1) = l.take i ++ [x] := by rw [List.take_add_one, h]; rfl
theorem take_all {α : Type} (l : List α) : l.take l.length = l := List.take_length
theorem map_get' {α β : Type} {f : α → β} {s : List α} {i : Nat} {d : β} (h : (s.map f)[i]? = some d) : ∃ c, s[i]? = some c ∧ d = f c := by
  rw [List.getElem?_map] at h
  cases hc : s[i]? with
  | none => rw [hc] at h; cases h
  | some c => rw [hc] at h; exact ⟨c, rfl, (Option.some.inj h).symm⟩
section
variable {K : PySem.W.Frag} {ρ : List En} {te : TE} {tt : TT} {wi : TI} {j k : Nat}
theorem lc1_filt {α : Type} {ds : List α} {emb : α → D} {t : α → Bool} {f : α → D} (h : IV1 wi ρ (· = ds.map emb)) (hn : ds.length ≤ 100000) (ht : ∀ (i : Nat) d, ds[i]? = some d → ET tt (ρ.set j (.dat (emb d))) (· = t d)) (he : ∀ (i : Nat) d, ds[i]? = some d → t d = true → ED te (ρ.set j (.dat (emb d))) (· = f d)) :
    EV (tLc wi (gName j) tt te [j]) ρ (· = .own ((ds.filter t).map f)) :=
  (e_lc1 (T := fun x => x = ds.map emb) (Inv := fun _ i acc => acc = ((ds.take i).filter t).map f) h (fun x e => by rw [e, List.length_map]; exact hn) (fun x e => rfl) (fun x i d acc e hd ha => by
    subst e
    obtain ⟨c, hc, rfl⟩ := map_get' hd
    refine (ht i c hc).imp fun b hb => ?_
    cases b with
    | true =>
      refine iteT ((he i c hc hb.symm).imp fun y hy => ?_)
      rw [take_step hc, List.filter_append, List.map_append, ha, hy]
      simp [← hb]
    | false =>
      refine iteF ?_
      rw [take_step hc, List.filter_append, List.map_append, ha]
      simp [← hb])).imp fun e ⟨x, acc, e1, e2, e3⟩ => by rw [e1, e3, e2, List.length_map, take_all]
theorem lc1_map {α : Type} {ds : List α} {emb : α → D} {f : α → D} (h : IV1 wi ρ (· = ds.map emb)) (hn : ds.length ≤ 100000) (he : ∀ (i : Nat) d, ds[i]? = some d → ED te (ρ.set j (.dat (emb d))) (· = f d)) : EV (tLc wi (gName j) tYes te [j]) ρ (· = .own (ds.map f)) :=
  (lc1_filt (t := fun _ => true) h hn (fun i d hd => et_yes) (fun i d hd _ => he i d hd)).imp fun e q => by rw [q, List.filter_eq_self.mpr fun _ _ => rfl]
theorem lc2_filt {α : Type} {ds : List α} {emb : α → D × D} {t : α → Bool} {f : α → D} (hjk : j ≠ k) (h : IV2 wi ρ (· = ds.map emb)) (hn : ds.length ≤ 100000) (ht : ∀ (i : Nat) d, ds[i]? = some d → ET tt ((ρ.set j (.dat (emb d).1)).set k (.dat (emb d).2)) (· = t d)) (he : ∀ (i : Nat) d, ds[i]? = some d → t d = true → ED te ((ρ.set j (.dat (emb d).1)).set k (.dat (emb d).2)) (· = f d)) :
    EV (tLc wi (gTup K 2 (gCons (gName j) (gCons (gName k) gNil))) tt te [j, k]) ρ (· = .own ((ds.filter t).map f)) :=
  (e_lc2 (T := fun x => x = ds.map emb) (Inv := fun _ i acc => acc = ((ds.take i).filter t).map f) h hjk (fun x e => by rw [e, List.length_map]; exact hn) (fun x e => rfl) (fun x i d acc e hd ha => by
    subst e
    obtain ⟨c, hc, rfl⟩ := map_get' hd
    refine (ht i c hc).imp fun b hb => ?_
    cases b with
    | true =>
      refine iteT ((he i c hc hb.symm).imp fun y hy => ?_)
      rw [take_step hc, List.filter_append, List.map_append, ha, hy]
      simp [← hb]
    | false =>
      refine iteF ?_
      rw [take_step hc, List.filter_append, List.map_append, ha]
      simp [← hb])).imp fun e ⟨x, acc, e1, e2, e3⟩ => by rw [e1, e3, e2, List.length_map, take_all]
theorem lc2_map {α : Type} {ds : List α} {emb : α → D × D} {f : α → D} (hjk : j ≠ k) (h : IV2 wi ρ (· = ds.map emb)) (hn : ds.length ≤ 100000) (he : ∀ (i : Nat) d, ds[i]? = some d → ED te ((ρ.set j (.dat (emb d).1)).set k (.dat (emb d).2)) (· = f d)) :
    EV (tLc wi (gTup K 2 (gCons (gName j) (gCons (gName k) gNil))) tYes te [j, k]) ρ (· = .own (ds.map f)) :=
  (lc2_filt (t := fun _ => true) hjk h hn (fun i d hd => et_yes) (fun i d hd _ => he i d hd)).imp fun e q => by rw [q, List.filter_eq_self.mpr fun _ _ => rfl]
/-- pairs of signs -/
def pr (p : Nat × Nat) : D × D := (.str [p.1], .str [p.2])
theorem iv_zipS {K' : PySem.W.Frag} {ar : TA} {x y : List Nat} (h : EA ar ρ (· = [.str x, .str y])) : IV2 (iZipG K' ar) ρ (· = (x.zip y).map pr) := by
  have e : (chs x).zip (chs y) = (x.zip y).map pr := by
    unfold chs pr
    rw [List.zip_map]
    rfl
  have h' := iv_zip (K := K') (.str x) (.str y) h
  rw [e] at h'
  exact h'
/-- a number and a sign -/
def ipr (p : Nat × Nat) : D × D := (.int p.1, .str [p.2])
theorem iv_enumZ {ar : TA} {s : List Nat} (h : EA ar ρ (· = [.str s])) : IV2 (iEnumS ar) ρ (· = ((List.range s.length).zip s).map ipr) := by
  have e : (ixs s.length).zip (chs s) = ((List.range s.length).zip s).map ipr := by
    unfold ixs chs ipr
    rw [List.zip_map]
    rfl
  have h' := iv_enum h
  rw [e] at h'
  exact h'
theorem iv_strS {s : List Nat} (h : ED te ρ (· = .str s)) : IV1 (iStr te) ρ (· = s.map fun c => .str [c]) := iv_str1 h
theorem iv_rngN {ar : TA} {n : Nat} (h : EA ar ρ (· = [.int n])) (hn : n ≤ 100000) : IV1 (iRng1 ar) ρ (· = (List.range n).map fun (i : Nat) => .int i) := by
  have h' := iv_rng1 h (by omega) (by omega)
  rw [Int.toNat_natCast] at h'
  exact h'
end
theorem hu64 {A : Around} {k : Nat} (hr : Room k A) : A.units + 64 < cLine := by have := hr.un; omega
theorem spE_len {Rg : List D → (En → Prop) → Prop} {vs : List V} {H : Hp} {Q : VK} {X : XK} {n : Nat} (h : SpE Rg vs H Q X) (hl : ∀ ds P, Rg ds P → ds.length = n) : vs.length = n := by
  obtain ⟨W, ds, P, _, r, hr, _⟩ := h
  rw [r.len]; exact hl ds P hr
/-- list index of a zip -/
theorem zip_get {α β : Type} {xs : List α} {ys : List β} {i : Nat} {p : α × β} (h : (xs.zip ys)[i]? = some p) : xs[i]? = some p.1 ∧ ys[i]? = some p.2 := by
  rw [List.getElem?_zip_eq_some] at h; exact h
theorem chs_get {s : List Nat} {i : Nat} {d : D} (h : (chs s)[i]? = some d) : ∃ c, s[i]? = some c ∧ d = .str [c] := by
  unfold chs at h
  rw [List.getElem?_map] at h
  cases hc : s[i]? with
  | none => rw [hc] at h; cases h
  | some c => rw [hc] at h; exact ⟨c, rfl, (Option.some.inj h).symm⟩
theorem map_get {α : Type} {f : α → D} {s : List α} {i : Nat} {d : D} (h : (s.map f)[i]? = some d) : ∃ c, s[i]? = some c ∧ d = f c := by
  rw [List.getElem?_map] at h
  cases hc : s[i]? with
  | none => rw [hc] at h; cases h
  | some c => rw [hc] at h; exact ⟨c, rfl, (Option.some.inj h).symm⟩
theorem ixs_get' {n i : Nat} {d : D} (h : (ixs n)[i]? = some d) : i < n ∧ d = .int i := by
  have hl := (List.getElem?_eq_some_iff.mp h).1
  have hl' : i < n := by simpa [ixs] using hl
  rw [ixs_get hl'] at h
  exact ⟨hl', (Option.some.inj h).symm⟩
end Nt
namespace Nt
open PySem PySem.Spec PyProof.Rows L2
/-! ### the rules with the written part named -/
section
variable {X : Cx} {K : PySem.W.Frag}
theorem op_eqK (hK : X.K = K) (hu : X.A.units + 64 < cLine) : OpR X (compareOp .Eq) (rEqU K) := hK ▸ op_eqU hu
theorem op_neK (hK : X.K = K) (hu : X.A.units + 64 < cLine) : OpR X (compareOp .NotEq) (rNeU K) := hK ▸ op_neU hu
theorem op_inK (hK : X.K = K) : OpR X (compareOp .In) (rInU K false) := hK ▸ op_inU
theorem op_notInK (hK : X.K = K) : OpR X (compareOp .NotIn) (rInU K true) := hK ▸ op_notInU
theorem ix_K (hK : X.K = K) : IxR X (rIx K) := hK ▸ ix_seq
theorem sl_K (hK : X.K = K) : L2.SlR X (rSlU K) := hK ▸ sl_U
theorem call_lenK (hK : X.K = K) : CallR X (.builtin "len") (rLenU K) := hK ▸ call_lenU
theorem call_listK (hK : X.K = K) : CallR X (.type "list") (rListC K) := hK ▸ call_listC
theorem call_allK (hK : X.K = K) (hc : X.calm = true) : CallR X (.builtin "all") (rAll K) := hK ▸ cr_all hc
theorem call_isiK1 (hK : X.K = K) : CallR X (.builtin "isinstance") (rIsi K) := hK ▸ call_isi
theorem call_isiK2 (hK : X.K = K) : CallR X (.builtin "isinstance") (rIsiT K) := hK ▸ call_isiT
theorem pe_joinK {o e : Expr} {to te : TE} {apos pos : Pos} (hK : X.K = K) (ho : PE X o to) (he : PE X e te) (hs : starEach [e] X.env = [(false, eval e X.env)] := by rfl) (hbase : attributeBase o "join" X.env (eval o X.env) = eval o X.env := by rfl) (hline : (apos.endLine == pos.line) = true := by rfl) :
    PE X (.Call (.Attribute o "join" apos) [e] [] pos) (tM1 (rJoin K) to te) := hK ▸ pe_joinU ho he hs hbase hline
theorem pt_truK {a : Expr} {ta : TE} (hK : X.K = K) (ha : PE X a ta) (he : ∀ whole, isTrue a X.env whole = (do let v ← whole; standAt a.pos; holding [v] (truthy v)) := by intro _; rfl) : PT X a (tTru K ta) := hK ▸ pt_tru ha he
theorem pe_revK {e : Expr} {te : TE} {k : Nat} {p1 p2 p3 pos : Pos} (hK : X.K = K) (he : PE X e te) : PE X (.Subscript e (.Slice none none (some (.UnaryOp .USub (.Constant (.int 1) k p1) p2)) p3) pos) (tRevL K te) := hK ▸ pe_revL he
theorem pi_listK {tg l : Expr} {tl : TE} (hK : X.K = K) (hl : PE X l tl) : PI X tg l (iSeq K tl) := ⟨fun pins s σ H R I h => by
  subst hK
  rcases h with h | h
  · exact (pi_list hl).run pins s σ H R I h
  · exact (pi_tup hl).run pins s σ H R I h⟩
theorem pi_zipK {e e2 : Expr} {ta : TA} {p pos tpos : Pos} {elts : List Expr} {kk : Nat} (hK : X.K = K) (hg : Gl X "zip") (hm : X.mg "zip" = none) (ha : PA X [e, e2] ta)
    (hs : starEach [e, e2] X.env = (false, eval e X.env) :: starEach [e2] X.env := by rfl) (hpl : (backTo pos (starEach [e2] X.env)).any (·.1) = false := by rfl) :
    PI X (.Tuple elts kk tpos) (.Call (.Name "zip" p) [e, e2] [] pos) (iZipG K ta) := hK ▸ pi_zipG hg hm ha hs hpl
end
end Nt

namespace Nt
open PySem PySem.Spec PyProof.Rows L2
/-! ### own dicts: keys texts (and ints), values data -/
theorem RepK.app {H : Hp} : ∀ {kd ke : List (Key × D)} {kvs kws : List (Key × V)}, RepK H kd kvs → RepK H ke kws → RepK H (kd ++ ke) (kvs ++ kws)
  | _, _, _, _, .nil, r => r
  | _, _, _, _, .cons h q, r => .cons h (q.app r)
theorem RepK.keys {H : Hp} : ∀ {kd : List (Key × D)} {kvs : List (Key × V)}, RepK H kd kvs → kvs.map Prod.fst = kd.map Prod.fst
  | _, _, .nil => rfl
  | _, _, .cons _ r => by rw [List.map_cons, List.map_cons, r.keys]
theorem RepK.len {H : Hp} {kd : List (Key × D)} {kvs : List (Key × V)} (r : RepK H kd kvs) : kvs.length = kd.length := by
  have e := congrArg List.length r.keys
  rw [List.length_map, List.length_map] at e
  exact e
instance decK (k : Key) (l : List Key) : Decidable (k ∈ l) := decidable_of_iff (l.any (fun z => decide (z = k)) = true) (by
  rw [List.any_eq_true]
  exact ⟨fun ⟨z, h, e⟩ => by rw [← of_decide_eq_true e]; exact h, fun h => ⟨k, h, decide_eq_true rfl⟩⟩)
theorem any_key (k : Key) : ∀ kvs : List (Key × V), (kvs.any fun kv => decide (kv.1 = k)) = decide (k ∈ kvs.map Prod.fst)
  | [] => rfl
  | p :: r => by
    rw [List.any_cons, any_key k r, List.map_cons]
    by_cases h : p.1 = k
    · rw [decide_eq_true h, Bool.true_or, decide_eq_true (by rw [h]; exact List.mem_cons_self)]
    · rw [decide_eq_false h, Bool.false_or]
      refine decide_eq_decide.mpr ⟨fun z => List.mem_cons_of_mem _ z, fun z => ?_⟩
      rcases List.mem_cons.mp z with e | e
      · exact absurd e.symm h
      · exact e
/-- a text as a key -/
def tk (s : List Nat) : Key := .inr ⟨s.toArray⟩
theorem tk_inj {a b : List Nat} (h : tk a = tk b) : a = b := by
  have h' := congrArg (fun z : Str => z.cps.toList) (Sum.inr.inj h)
  simpa using h'
theorem mem_tk {α : Type} {s : List Nat} {F : List (List Nat)} {f : List Nat → α} : tk s ∈ (F.map fun z => (tk z, f z)).map Prod.fst ↔ s ∈ F := by
  rw [List.map_map, List.mem_map]
  constructor
  · rintro ⟨z, hz, e⟩
    rw [← tk_inj e]; exact hz
  · exact fun h => ⟨s, h, rfl⟩
section
variable {K : PySem.W.Frag} {ta tb te ty tv : TE} {ρ : List En} {p : Ps} {d : D} {s : List Nat} {kd : List (Key × D)} {i : Nat}
/-- {e: f}, e a text -/
theorem e_disp1 (hk : ED ta ρ (· = .str s)) (hv : ED tb ρ (· = d)) : EV (tDisp [(ta, tb)]) ρ (· = .dct [(tk s, d)]) := fun W0 W σ E Q q pp hp => by
  have gp := Grow.add (W := W) (o := .dK []) hp
  refine hk W0 _ σ (E.grow gp) _ fun v1 d1 W1 g1 r1 e1 => ?_
  refine hv W0 _ σ ((E.grow gp).grow g1) _ fun v2 d2 W2 g2 r2 e2 => ?_
  subst e1 e2
  cases r1
  have h1 : (W.add pp (.dK []) hp).h pp = some (.dK []) := upd_same
  have h2 : W1.h pp = some (.dK []) := g1.h _ _ h1
  have h3 : W2.h pp = some (.dK []) := g2.h _ _ h2
  have b1 : W1.b pp = none := g1.nw pp (W.le.none' hp) (by rw [h1]; exact fun z => (nomatch z))
  have b2 : W2.b pp = none := g2.nw pp b1 (by rw [h2]; exact fun z => (nomatch z))
  refine ⟨h3, [(tk s, v2)], rfl, by simp, ?_⟩
  refine q (.ref pp) (.dct [(tk s, d2)]) ⟨W2.b, upd W2.h pp (.dK [(tk s, v2)]), fun a o e => ?_⟩ ⟨((gp.trans g1).trans g2).b, fun a o e => ?_, ((gp.trans g1).trans g2).nw⟩ ⟨pp, _, rfl, upd_same, b2, hp, .cons r2 .nil⟩ rfl
  · show upd W2.h pp _ a = some o
    rw [upd_ne (fun z => by rw [z, b2] at e; cases e)]; exact W2.le _ _ e
  · show upd W2.h pp _ a = some o
    rw [upd_ne (ne_of_none e hp)]; exact ((gp.trans g1).trans g2).h _ _ e
/-- e not in d -/
theorem et_dnotin (h : ρ[i]? = some (.dct kd)) (hy : ED ty ρ (· = .str s)) : ET (tB (tDNotIn ty (tVar i))) ρ (· = !decide (tk s ∈ kd.map Prod.fst)) := fun W0 W σ E Q q =>
  hy W0 W σ E _ fun v1 d1 W1 g1 r1 e1 => by
    subst e1
    cases r1
    obtain ⟨l, kvs, hv, h1, _, r, _⟩ := (E.grow g1).mutK (kd' := []) h
    refine ⟨.ref l, hv, l, _, rfl, DGet.k (k := tk s) h1, _, rfl, q _ W1 g1 ?_⟩
    rw [← valV_any, any_key, r.keys]
theorem et_din (h : ρ[i]? = some (.dct kd)) (hy : ED ty ρ (· = .str s)) : ET (tB (tDIn ty (tVar i))) ρ (· = decide (tk s ∈ kd.map Prod.fst)) := fun W0 W σ E Q q =>
  hy W0 W σ E _ fun v1 d1 W1 g1 r1 e1 => by
    subst e1
    cases r1
    obtain ⟨l, kvs, hv, h1, _, r, _⟩ := (E.grow g1).mutK (kd' := []) h
    refine ⟨.ref l, hv, l, _, rfl, DGet.k (k := tk s) h1, _, rfl, q _ W1 g1 ?_⟩
    rw [← valV_any, any_key, r.keys]
/-- d[e] = f, the key new -/
theorem t_dput (h : ρ[i]? = some (.dct kd)) (hv : ED tv ρ (· = d)) (hk : ED ty ρ (· = .str s)) (hn : ¬ tk s ∈ kd.map Prod.fst) (hl : kd.length < 100000) (k : p.N (ρ.set i (.dct (kd ++ [(tk s, d)])))) : TT' (sDPut (tVar i) ty tv) ρ p := fun W0 W σ E Dd nx rt bk ct =>
  hv W0 W σ E _ fun v d1 W1 g1 r1 e1 => by
    subst e1
    obtain ⟨l, _, hvl, _⟩ := E.mutK (kd' := []) h
    refine ⟨.ref l, hvl, hk W0 W1 σ (E.grow g1) _ fun y d2 W2 g2 r2 e2 => ?_⟩
    subst e2
    cases r2
    obtain ⟨l', kvs, hv', h1, _, r, z⟩ := ((E.grow g1).grow g2).mutK (kd' := kd ++ [(tk s, d1)]) h
    rw [hvl] at hv'
    cases hv'
    obtain ⟨W3, a1, a2, E3⟩ := z (kvs ++ [(tk s, v)]) (r.app (.cons (r1.mono g2.b) .nil))
    refine ⟨l, _, rfl, DPut.k (k := tk s) (v := v) h1 (Evl.sz_lt (by rw [r.len]; exact hl)), ?_⟩
    have e : putK kvs (tk s) v = kvs ++ [(tk s, v)] := by
      unfold putK
      rw [any_key, r.keys, decide_eq_false hn]
      rfl
    rw [e, ← a2]
    exact nx σ W3 _ E3 (by rw [a1]; exact (g1.trans g2).b) k
end
/-! ### sorted(list of texts) -/
theorem strs_back {H : Hp} : ∀ {xs : List (List Nat)} {ys : List Str}, ys.Perm (xs.map fun s => (⟨s.toArray⟩ : Str)) → (ys.map fun y => y.cps.toList).Perm xs := fun {xs ys} h => by
  have := h.map fun y : Str => y.cps.toList
  rw [List.map_map] at this
  have e : xs.map ((fun y : Str => y.cps.toList) ∘ fun s => (⟨s.toArray⟩ : Str)) = xs := by
    conv => rhs; rw [← List.map_id xs]
    rfl
  rw [e] at this
  exact this
theorem rep_strs {H : Hp} : ∀ ys : List Str, Reps H (ys.map fun y => D.str y.cps.toList) (ys.map V.str)
  | [] => .nil
  | y :: ys => .cons (rep_str y) (rep_strs ys)
theorem lst_tr2 {a b c : List Nat} (h1 : ¬ b < a) (h2 : ¬ c < b) : ¬ c < a := fun h => by
  rcases Decidable.em (a < b) with h3 | h3
  · exact h2 (List.lt_trans h h3)
  · have e := List.le_antisymm (List.not_lt.mp h1) (List.not_lt.mp h3)
    rw [e] at h
    exact h2 h
theorem rising2 : ∀ (r : List Str) (p : Str), risingS p r = true → (∀ x ∈ r, ¬ x.cps.toList < p.cps.toList) ∧ r.Pairwise fun a b => ¬ b.cps.toList < a.cps.toList
  | [], _, _ => ⟨fun _ h => (nomatch h), List.Pairwise.nil⟩
  | x :: r, p, h => by
    unfold risingS at h
    rw [Bool.and_eq_true, Bool.not_eq_true'] at h
    have h1 : ¬ x.cps.toList < p.cps.toList := by
      have := h.1
      rw [ltCps_eq] at this
      exact of_decide_eq_false this
    obtain ⟨a, b⟩ := rising2 r x h.2
    refine ⟨fun y hy => ?_, List.pairwise_cons.mpr ⟨a, b⟩⟩
    rcases List.mem_cons.mp hy with e | hy
    · rw [e]; exact h1
    · exact lst_tr2 h1 (a y hy)
theorem sorted2 {l : List Str} (h : sortedS l = true) (nd : (l.map fun y => y.cps.toList).Nodup) : (l.map fun y => y.cps.toList).Pairwise (· < ·) := by
  have h1 : l.Pairwise fun a b => ¬ b.cps.toList < a.cps.toList := by
    cases l with
    | nil => exact List.Pairwise.nil
    | cons x r =>
      obtain ⟨a, b⟩ := rising2 r x h
      exact List.pairwise_cons.mpr ⟨a, b⟩
  refine ((List.pairwise_map (R := fun a b : List Nat => ¬ b < a) (f := fun y : Str => y.cps.toList)).mpr h1 |>.and nd).imp fun {a b} hab => ?_
  by_cases q : a < b
  · exact q
  · exact absurd (List.le_antisymm (List.not_lt.mp hab.1) (List.not_lt.mp q)) hab.2
theorem cd_sortS {K : PySem.W.Frag} {F : List (List Nat)} (hl : F.length < 64) (nd : F.Nodup) : CD (rSortedS K) [.lst (F.map D.str)] (fun e => ∃ M : List (List Nat), e = .own (M.map D.str) ∧ M.Perm F ∧ M.Pairwise (· < ·)) := fun W vs r Q q => by
  cases r with
  | cons r rr =>
    cases rr
    cases r with
    | lst ha ra =>
      rename_i a ws
      have ew := txs_of ra
      refine ⟨a, _, rfl, sq_l (by rw [← ew]; exact W.le _ _ ha), by rw [List.length_map]; exact hl, fun ys pp hp hs hn => ?_⟩
      have pm := strs_back (H := W.b) hp
      obtain ⟨g, c⟩ := new_own (Grow.refl W) hn (rep_strs (H := W.b) ys)
      refine q (.ref pp) _ _ g c ⟨ys.map fun y => y.cps.toList, by rw [List.map_map]; rfl, pm, sorted2 hs (pm.nodup_iff.mpr nd)⟩
end Nt

namespace Nt
open PySem PySem.Spec PyProof.Rows L2
/-! ### enumerate(v, start=1) -/
def ItN (K : PySem.W.Frag) (k : Sk) : It :=
  ⟨fun i H => ∃ xs, k.has K H xs ∧ i < xs.length, fun i H v H' => ∃ (T : Addr) (x : V), v = .ref T ∧ H T = none ∧ H' = upd H T (.tup [.int (1 + (i : Int)), x]) ∧ ∀ xs, k.has K H xs → xs[i]? = some x, fun i H => ∃ xs, k.has K H xs ∧ i = xs.length⟩
theorem turn_enumN {P : Program} {w : World} {K : PySem.W.Frag} {elts : List Expr} {kk : Nat} {tpos : Pos} {k : Sk} {e it : Addr} (hne : e ≠ it) (hef : e ∉ k.fp) (hif : it ∉ k.fp) :
    Turn P w K (.Tuple elts kk tpos) (ItN K k) [e, it] e (fun i h => (∃ old, IsEnum h e it (1 + (i : Int)) old) ∧ k.it it i h) where
  mem := by simp
  obj := fun i h st c hc => by
    obtain ⟨⟨old, he⟩, h1⟩ := st
    rcases (show c = e ∨ c = it by simpa using hc) with q | q <;> rw [q]
    · exact ⟨_, he, fun v q => nomatch q⟩
    · exact Sk.it_obj h1
  keep := fun i h h' st kp => by
    obtain ⟨⟨old, he⟩, h1⟩ := st
    exact ⟨⟨old, kp e (by simp) _ he⟩, Sk.it_at h1 fun o q => kp it (by simp) o q⟩
  item := by
    intro X hP hw hK hc i pins s σ H E I hf st hg
    subst hP hw hK
    obtain ⟨⟨old, he⟩, h1⟩ := st
    obtain ⟨xs, hx, hi⟩ := hg
    obtain ⟨P1, St1, D1, p1, a1, b1⟩ := Sk.draws (w := X.w) (A := X.A.in1) I (I.ok.hd hc) hx it hif i h1
    have W := GoesN.enumFrom (elts := elts) (x1 := kk) (pos := tpos) 1 D1 e hne (by rw [List.mem_cons]; exact fun z => z.elim hne hef) List.mem_cons_self
    have hlt : ∀ c ∈ [e, it], c < s.heap.objs.size := fun c hcm => by
      rcases (show c = e ∨ c = it by simpa using hcm) with q | q <;> rw [q]
      · exact Heap.lt_size he
      · obtain ⟨_, e1, _⟩ := Sk.it_obj h1; exact Heap.lt_size e1
    refine thn (W.goes i s (fun v s2 => ∃ x H', L2.Inv X pins σ H' s2 ∧ RelV x v ∧ (ItN X.K k).yld i H x H' ∧ ((∃ old, IsEnum s2.heap e it (1 + ((i + 1 : Nat) : Int)) old) ∧ k.it it (i + 1) s2.heap) ∧ ∀ b ∈ [e, it], H' b = none) E hi ⟨⟨old, he⟩, b1⟩ ?_) fun r s1 q => q
    rintro v h' tk ⟨T, t, u, rfl, hT, q1, hTT⟩ ⟨g1, g2⟩ kk' _
    obtain ⟨x, ex, rx⟩ := p1 i u q1
    have new : ObjOk X.prog X.w (upd H T (.tup [.int (1 + (i : Int)), x])) h' T (.tup [.int (1 + (i : Int)), x]) :=
      ⟨by show 2 ≤ sizeLine; decide, [.int (1 + (i : Int)) t, u], .cons ⟨t, rfl⟩ (.cons rx .nil), hTT⟩
    have I1 : L2.Inv X pins σ (upd H T (.tup [.int (1 + (i : Int)), x])) { s with heap := h', toks := tk } :=
      I.turnedNew (t' := tk) (ch := [e, it]) (fun c o hb q => kk' c o hb q) hf hT new
    refine ⟨.ref T, _, I1, rfl, ⟨T, x, rfl, I.hok.fresh hT, rfl, fun l hl => by rw [Sk.has_inj I hl hx]; exact ex⟩, ⟨g1, a1 _ _ g2⟩, fun c hcm => ?_⟩
    rw [upd_ne (Nat.ne_of_lt (Nat.lt_of_lt_of_le (hlt c hcm) hT))]; exact (hf c hcm).1
  done := by
    intro X hP hw hK hc i pins s σ H E I hf st hg
    subst hP hw hK
    obtain ⟨⟨old, he⟩, h1⟩ := st
    obtain ⟨xs, hx, hi⟩ := hg
    obtain ⟨P1, St1, D1, p1, a1, b1⟩ := Sk.draws (w := X.w) (A := X.A.in1) I (I.ok.hd hc) hx it hif i h1
    have W := GoesN.enumFrom (elts := elts) (x1 := kk) (pos := tpos) 1 D1 e hne (by rw [List.mem_cons]; exact fun z => z.elim hne hef) List.mem_cons_self
    rw [← hi] at W
    exact W.stops s (fun s1 => L2.Inv X pins σ H s1) E ⟨⟨old, he⟩, b1⟩ fun h' tk k _ => I.turnedL (t' := tk) (ch := [e, it]) (fun c o hb q => k c o hb q) hf
  self := fun A i s Q E st h => by
    obtain ⟨⟨_, he⟩, _⟩ := st
    exact wpAny_pyIter_enum he h
section
variable {M : Model} {A : Around} {E : Value → Shared → Prop} {s : Shared}
theorem cw_typeKw {pos : Pos} {T : String} {args : List (Bool × Sem Value)} {keywords : List (Option Str × Sem Value)} {Q : Value → Shared → Prop} (hpl : args.any (·.1) = false) (hkw : keywords.any (·.1.isNone) = false)
    (h : wpAny M A (evalArgs (.type T) true args keywords) (fun a s₁ => wpAny M A (call (.type T) ([] ++ a.pos) a.kw) Q E s₁) E s) : wpAny M A (callWith pos (.type T) [] args keywords) Q E s := by
  unfold callWith; refine wpAny_bind (wpAny_holding (wpAny_mono h (fun a s₁ h₁ => wpAny_bind (wpAny_standAt ?_)) fun _ _ x => x))
  simp only [hpl, hkw, Bool.or_false]; refine wpAny_bind (wpAny_pure ?_)
  exact wpAny_bind (wpAny_mono h₁ (fun r s₂ hr => wpAny_bind (wpAny_holding (wpAny_point (wpAny_pure hr)))) fun _ _ x => x)
end
def iEnum1 (K : PySem.W.Frag) (ta : TA) : TI := fun σ H R => ta σ H fun vs H1 => ∃ (k : Sk) (xs : List V), vs = [k.val] ∧ k.has K H1 xs ∧ R (ItN K k) H1
theorem pi_enum1 {X : Cx} {e : Expr} {ta : TA} {p pos tpos cp kp : Pos} {elts : List Expr} {kk ck : Nat} (hg : Gl X "enumerate") (hm : X.mg "enumerate" = none) (ha : PA X [e] ta)
    (he : backTo pos (starEach [e] X.env) = (false, eval e X.env) :: backTo pos (starEach [] X.env) := by rfl) (hpl : (backTo pos (starEach [e] X.env)).any (·.1) = false := by rfl) :
    PI X (.Tuple elts kk tpos) (.Call (.Name "enumerate" p) [e] [⟨some "start", .Constant (.int 1) ck cp, kp⟩] pos) (iEnum1 X.K ta) := by
  refine ⟨fun pins s σ H R I h => ?_⟩
  refine wpAny_Call_Name_kw (ld_blt I hg hm boot_enumerate ?_)
  have hk : PK X [⟨some "start", .Constant (.int 1) ck cp, kp⟩] (tCons (tC (.int 1)) tNil) := pk_cons pe_int pk_nil
  refine cw_typeKw hpl rfl ?_
  rw [he]
  refine PyProof.Rows.evalArgs_kwB rfl ?_
  rw [← he]
  refine thn (ha.run pos pins s σ H _ I h) fun us s1 ⟨vs, H1, I1, r1, q1⟩ => thn (hk.run pos pins s1 σ H1 (fun ws H2 => ws = [.int 1] ∧ H2 = H1) I1 ⟨rfl, rfl⟩) fun ws s2 ⟨zs, H2, I2, r2, e2, e3⟩ => ?_
  subst e2 e3
  obtain ⟨k, xs, ex, hx, q⟩ := q1
  subst ex
  obtain ⟨u, rfl, ru⟩ := vals1 r1
  obtain ⟨w1, rfl, t, rfl⟩ := vals1 r2
  obtain ⟨o, Hc, B, hB, hit, hfp⟩ := Sk.begins I2 hx ru
  refine enum_begins_start B hB (by decide) (by decide) fun h' he' hio hsz hk' => wpAny_pyIter_enum he' ?_
  have I3 : L2.Inv X pins σ H2 { s2 with heap := h' } := I2.kept (t' := s2.toks) hk'
  refine ⟨s2.heap.objs.size + 1, [s2.heap.objs.size + 1, s2.heap.objs.size], _, _, H2, rfl, I3, turn_enumN (Nat.succ_ne_self _) (fun z => absurd (hfp _ z) (Nat.not_lt_of_le (Nat.le_succ _))) (fun z => Nat.lt_irrefl _ (hfp _ z)), ⟨⟨.none, he'⟩, hit _ _ hio⟩, fun b hb => ?_, q⟩
  have hle : s2.heap.objs.size ≤ b := by
    rcases (show b = s2.heap.objs.size + 1 ∨ b = s2.heap.objs.size by simpa using hb) with z | z <;> rw [z]
    · exact Nat.le_add_right _ _
    · exact Nat.le_refl _
  exact I2.fpOk hle (I2.hok.fresh hle)
section
variable {K : PySem.W.Frag} {ar : TA} {ρ : List En}
/-- 1, 2, .. beside the items -/
def num1 (n : Nat) : List D := (List.range n).map fun (i : Nat) => D.int (1 + (i : Int))
theorem iv_enum1 {x : D} {ds : List D} (hx : Its1 x ds) (h : EA ar ρ (· = [x])) : IV2 (iEnum1 K ar) ρ (· = (num1 ds.length).zip ds) := fun W0 W σ E R q => h W0 W σ E _ fun vs es W' g r e => by
  subst e
  cases r with
  | cons r1 rr =>
    cases rr
    obtain ⟨k, us, rfl, ru, hu⟩ := src (K := K) hx r1
    have l1 := ru.len
    have hl : ((num1 ds.length).zip ds).length = ds.length := by simp [num1]
    refine ⟨k, us, rfl, hu _ W'.le, q _ _ W' g ⟨fun W2 e2 i hi => ⟨us, hu _ (e2.tr W2.le), by omega⟩, fun W2 e2 => ⟨us, hu _ (e2.tr W2.le), by omega⟩, fun W2 e2 i v H' hi y => ?_⟩ rfl⟩
    obtain ⟨T, a, h1, h2, h3, h4⟩ := y
    obtain ⟨d1, e3, q1⟩ := (ru.mono e2).at (h4 us (hu _ (e2.tr W2.le)))
    rw [hl] at hi
    exact ⟨T, _, a, (.int (1 + (i : Int)), d1), h1, h2, h3, by rw [List.getElem?_zip_eq_some]; exact ⟨by simp [num1, hi], e3⟩, .int _, q1⟩
end
/-! ### a dict of the module's own, text keys: d.get(e), the key there -/
def tKG (K : PySem.W.Frag) (d : Addr) (te : TE) : TE := fun σ H Q => te σ H fun y H2 => ∃ (z : Str) (u : Value) (v : V), y = .str z ∧ PySem.W.nsIn K d z = some (some u) ∧ RelV v u ∧ Q v H2
section
variable {X : Cx} {o e : Expr} {apos cpos : Pos} {d : Addr} {es : Array DictEntry} {n : Nat} {te : TE}
theorem kd_at {pins : List (Addr × Obj)} {σ : L2.St} {H : Hp} {s : Shared} (I : L2.Inv X pins σ H s) (D : KDict X.K X.w d es n) : s.TypeIs (.ref d) "dict" ∧ ∀ b, Value.ref d = .ref b → ∃ ob, s.heap.get? b = some ob ∧ ob.dict = none := by
  have hm := PySem.W.mapOf_K (prog := X.prog) (w := X.w) I.kIn D.at_ D.lit
  exact ⟨hm.typeIs, fun b q => by cases q; exact ⟨_, I.kIn _ _ D.at_, rfl⟩⟩
theorem pe_kget {x : Str} {p : Pos} (D : KDict X.K X.w d es n) (hg : Gl X x) (hm : X.mg x = some (.ref d)) (he : PE X e te) (m : M1 X (.Name x p) "get" apos e cpos) (hdb : (x == ("__debug__" : Str)) = false := by decide) :
    PE X (.Call (.Attribute (.Name x p) "get" apos) [e] [] cpos) (tKG X.K d te) := by
  refine ⟨fun pins s σ H Q I h => ?_⟩
  refine wpAny_Call_method m.base m.few m.line PySem.F.plainAttrs_dict PySem.F.slot_dict_get PySem.F.type_dict_get (ld_glob I hg hm ?_ hdb)
  obtain ⟨t1, t2⟩ := kd_at I D
  refine ⟨t1, t2, ?_⟩
  rw [m.trees]
  refine Calls.callWith_builtin rfl (Calls.evalArgs_plain (Calls.spliced_cons (thn (he.run pins s σ H _ I h) fun iv s2 ⟨y, H2, I2, ry, z, u, v, ey, hu, ru, q2⟩ => Calls.spliced_nil ?_)))
  subst ey
  obtain ⟨t, rfl⟩ := ry
  have hmp := PySem.W.mapOf_K (prog := X.prog) (w := X.w) I2.kIn D.at_ D.lit
  refine call_meetsIn PySem.F.slot_dict_get hmp.typeIs PySem.F.entry_dict_get (PySem.F.args_dict_get_2 _ _) (meets_dict_get (PySem.strKind X.prog X.w) d (PySem.strKind_is X.prog X.w z t) D.low) ⟨_, hmp, ?_⟩
  rw [PySem.W.find_K D.at_ hu]
  exact ⟨v, H2, I2.tok _, ru, q2⟩
end
end Nt

namespace Nt
open PySem PySem.Spec PyProof.Rows L2
section
variable {K : PySem.W.Frag} {ta tb te tv ti : TE} {ρ : List En} {p : Ps} {t u : TS} {wi : TI} {P : En → Prop} {PD : D → Prop}
/-- a loop with two names over pairs that are made as it goes -/
theorem t_for2 {j k : Nat} {Ti : List (D × D) → Prop} (h : IV2 wi ρ Ti) (Inv : List (D × D) → Nat → List En → Prop) (h0 : ∀ ds, Ti ds → Inv ds 0 ρ)
    (hs : ∀ ds i d ρ', Ti ds → ds[i]? = some d → Inv ds i ρ' → TT' t ((ρ'.set j (.dat d.1)).set k (.dat d.2)) { N := Inv ds (i + 1), R := p.R, B := p.N, C := Inv ds (i + 1) }) (hd : ∀ ds ρ', Ti ds → Inv ds ds.length ρ' → p.N ρ') :
    TT' (tFor wi (gTup K 2 (gCons (gName j) (gCons (gName k) gNil))) t) ρ p := fun W0 W σ E Dd nx rt bk ct =>
  h W0 W σ E _ fun J ds W1 g1 it tt => by
    refine ⟨fun i m σ' H => i ≤ ds.length ∧ m = ds.length - i ∧ ∃ W' ρ', W'.h = H ∧ Env W0 W' σ' ρ' ∧ Ex W1.b W'.b ∧ Inv ds i ρ', ⟨ds.length, Nat.zero_le _, rfl, W1, ρ, rfl, E.grow g1, Ex.rfl', h0 ds tt⟩, ?_⟩
    rintro i m σ' H ⟨hi, hm, W', ρ', rfl, E', e', inv⟩
    by_cases hlt : i < ds.length
    · refine .inr ⟨it.go W' e' i hlt, fun σ2 H2 => ∃ W' ρ', W'.h = H2 ∧ Env W0 W' σ2 ρ' ∧ Ex W1.b W'.b ∧ Inv ds (i + 1) ρ', fun σ2 H2 l => ⟨ds.length - (i + 1), by omega, hlt, rfl, l⟩, fun v H' y => ?_⟩
      obtain ⟨Tt, x, y', d, rfl, hT, rfl, hd', rx, ry⟩ := it.yld W' e' i v H' hlt y
      have gT := Grow.add (W := W') (o := .tup [x, y']) hT
      have E2 := ((E'.set gT (e := .dat d.1) (v := x) rx j).set (Grow.refl _) (e := .dat d.2) (v := y') ry k)
      refine ⟨Tt, _, rfl, sq_t upd_same, rfl, _, _, rfl, _, _, rfl, rfl, ?_⟩
      exact hs ds i d ρ' tt hd' inv W0 (W'.add Tt (.tup [x, y']) hT) _ E2 _ (fun σ2 W2 ρ2 E3 e2 n => ⟨W2, ρ2, rfl, E3, e'.tr e2, n⟩) rt (fun σ2 W2 ρ2 E3 e2 n => nx σ2 W2 ρ2 E3 ((g1.b.tr e').tr e2) n) (fun σ2 W2 ρ2 E3 e2 n => ⟨W2, ρ2, rfl, E3, e'.tr e2, n⟩)
    · have e : i = ds.length := by omega
      subst e
      exact .inl ⟨it.stop W' e', nx σ' W' ρ' E' (g1.b.tr e') (hd ds ρ' tt inv)⟩
/-- a loop with three names over tuples that stand -/
theorem t_for3t {j k l : Nat} {Ti : List D → Prop} (h : IV1 wi ρ Ti) (h3 : ∀ ds, Ti ds → ∀ d ∈ ds, ∃ x y z, d = .tup [x, y, z]) (Inv : List D → Nat → List En → Prop) (h0 : ∀ ds, Ti ds → Inv ds 0 ρ)
    (hs : ∀ ds i x y z ρ', Ti ds → ds[i]? = some (.tup [x, y, z]) → Inv ds i ρ' → TT' t (((ρ'.set j (.dat x)).set k (.dat y)).set l (.dat z)) { N := Inv ds (i + 1), R := p.R, B := p.N, C := Inv ds (i + 1) }) (hd : ∀ ds ρ', Ti ds → Inv ds ds.length ρ' → p.N ρ') :
    TT' (tFor wi (gTup K 3 (gCons (gName j) (gCons (gName k) (gCons (gName l) gNil)))) t) ρ p := fun W0 W σ E Dd nx rt bk ct =>
  h W0 W σ E _ fun J ds W1 g1 it tt => by
    refine ⟨fun i m σ' H => i ≤ ds.length ∧ m = ds.length - i ∧ ∃ W' ρ', W'.h = H ∧ Env W0 W' σ' ρ' ∧ Ex W1.b W'.b ∧ Inv ds i ρ', ⟨ds.length, Nat.zero_le _, rfl, W1, ρ, rfl, E.grow g1, Ex.rfl', h0 ds tt⟩, ?_⟩
    rintro i m σ' H ⟨hi, hm, W', ρ', rfl, E', e', inv⟩
    by_cases hlt : i < ds.length
    · refine .inr ⟨it.go W' e' i hlt, fun σ2 H2 => ∃ W' ρ', W'.h = H2 ∧ Env W0 W' σ2 ρ' ∧ Ex W1.b W'.b ∧ Inv ds (i + 1) ρ', fun σ2 H2 q => ⟨ds.length - (i + 1), by omega, hlt, rfl, q⟩, fun v H' y => ?_⟩
      obtain ⟨e, d, hd', rd⟩ := it.yld W' e' i v H' hlt y
      subst e
      obtain ⟨a, b, c, rfl⟩ := h3 ds tt d (List.mem_of_getElem? hd')
      cases rd with
      | tup ha hr =>
        cases hr with
        | cons ra rr =>
          cases rr with
          | cons rb rr =>
            cases rr with
            | cons rc rr =>
              cases rr
              refine ⟨_, _, rfl, sq_t (W'.le _ _ ha), rfl, _, _, rfl, _, _, rfl, _, _, rfl, rfl, ?_⟩
              exact hs ds i a b c ρ' tt hd' inv W0 W' _ (((E'.set (Grow.refl W') (e := .dat a) ra j).set (Grow.refl W') (e := .dat b) rb k).set (Grow.refl W') (e := .dat c) rc l) _ (fun σ2 W2 ρ2 E3 e2 n => ⟨W2, ρ2, rfl, E3, e'.tr e2, n⟩) rt (fun σ2 W2 ρ2 E3 e2 n => nx σ2 W2 ρ2 E3 ((g1.b.tr e').tr e2) n) (fun σ2 W2 ρ2 E3 e2 n => ⟨W2, ρ2, rfl, E3, e'.tr e2, n⟩)
    · have e : i = ds.length := by omega
      subst e
      exact .inl ⟨it.stop W' e', nx σ' W' ρ' E' (g1.b.tr e') (hd ds ρ' tt inv)⟩
theorem reps_set {H : Hp} {x : D} {v : V} (r : Rep H x v) : ∀ {ds : List D} {vs : List V} (k : Nat), Reps H ds vs → Reps H (ds.set k x) (vs.set k v)
  | _, _, 0, .nil => .nil
  | _, _, k + 1, .nil => .nil
  | _, _, 0, .cons _ q => .cons r q
  | _, _, k + 1, .cons h q => .cons h (reps_set r k q)
/-- own[n] = e -/
theorem t_ixset {i : Nat} {ds : List D} {n : Int} {m : Nat} (h : ρ[i]? = some (.own ds)) (hv : ED tv ρ PD) (hi : ED ti ρ (· = .int n)) (hm : ixN ds.length n = some m) (k : ∀ d, PD d → p.N (ρ.set i (.own (ds.set m d)))) :
    TT' (tAsg tv (gSub (tVar i) ti rSetL)) ρ p := fun W0 W σ E Dd nx rt bk ct => by
  obtain ⟨l, _, hvl, _⟩ := E.mut (ds' := []) h
  refine hv W0 W σ E _ fun v d W1 g1 r1 pd => ⟨.ref l, hvl, hi W0 W1 σ (E.grow g1) _ fun w x W2 g2 r2 e2 => ?_⟩
  subst e2
  cases r2
  obtain ⟨l', vs, hv', h1, _, r, z⟩ := ((E.grow g1).grow g2).mut (ds' := ds.set m d) h
  rw [hvl] at hv'
  cases hv'
  obtain ⟨W3, a1, a2, E3⟩ := z _ (reps_set (r1.mono g2.b) m r)
  refine ⟨l, vs, n, m, rfl, rfl, h1, by rw [r.len]; exact hm, ?_⟩
  rw [← a2]
  exact nx σ W3 _ E3 (by rw [a1]; exact (g1.trans g2).b) (k d pd)
end
section
variable {K : PySem.W.Frag} {P : En → Prop}
theorem od_isB {a b : Bool} : OD rIsB (.bl a) (.bl b) (· = .dat (.bl (decide (a = b)))) := fun W v w r r' Q q => by
  cases r; cases r'
  exact ⟨a, b, rfl, rfl, dat1 (.bl _) q⟩
theorem eqv_strs : ∀ M N : List (List Nat), PyData.eqv (.list ((M.map D.str).map D.py)) (.list ((N.map D.str).map D.py)) = decide (M = N)
  | [], [] => rfl
  | [], n :: N => rfl
  | m :: M, [] => rfl
  | m :: M, n :: N => by
    have ih := eqv_strs M N
    show ((⟨m.toArray⟩ : Str) == (⟨n.toArray⟩ : Str) && PyData.eqvAll ((M.map D.str).map D.py) ((N.map D.str).map D.py)) = _
    have e : PyData.eqvAll ((M.map D.str).map D.py) ((N.map D.str).map D.py) = decide (M = N) := ih
    rw [e]
    have e2 : ((⟨m.toArray⟩ : Str) == (⟨n.toArray⟩ : Str)) = decide (m = n) := eqV_tx m n
    rw [e2]
    by_cases h1 : m = n
    · subst h1; simp
    · rw [decide_eq_false h1, Bool.false_and, decide_eq_false (fun z => h1 (List.cons.inj z).1)]
/-- two lists of texts -/
theorem od_eqLS {M N : List (List Nat)} (hM : ∀ d ∈ M.map D.str, d.ok = true) (hN : ∀ d ∈ N.map D.str, d.ok = true) : OD (rEqU K) (.lst (M.map D.str)) (.lst (N.map D.str)) (· = .dat (.bl (decide (M = N)))) := fun W v w r r' Q q => by
  cases r with
  | lst ha ra =>
    cases r' with
    | lst hb rb =>
      refine .inr ⟨.list ((M.map D.str).map D.py), .list ((N.map D.str).map D.py), .lst (sq_l (W.le _ _ ha)) (py_dpall (fun d hd => D.ok.fl (hM d hd)) ra), .lst (sq_l (W.le _ _ hb)) (py_dpall (fun d hd => D.ok.fl (hN d hd)) rb), py_shaped _ hM, py_shaped _ hN, ?_⟩
      rw [eqv_strs]
      exact dat1 (.bl _) q
theorem e_kget {K : PySem.W.Frag} {a : Addr} {te : TE} {ρ : List En} {s : List Nat} {n : Int} (h : ED te ρ (· = .str s)) (hn : ∃ u, PySem.W.nsIn K a ⟨s.toArray⟩ = some (some u) ∧ RelV (.int n) u) : ED (tKG K a te) ρ (· = .int n) := fun W0 W σ E Q q => h W0 W σ E _ fun v d W1 g1 r1 e1 => by
  subst e1
  cases r1
  obtain ⟨u, h1, h2⟩ := hn
  exact ⟨_, u, .int n, rfl, h1, h2, q _ _ W1 g1 (.int n) rfl⟩
/-- x, y = e, f; both kept as they come -/
theorem t_pair {K : PySem.W.Frag} {ta tb : TE} {ρ : List En} {p : Ps} {i j : Nat} {P1 P2 : En → Prop} (h1 : EV ta ρ P1) (h2 : EV tb ρ P2) (k : ∀ a b, P1 a → P2 b → p.N ((ρ.set i a).set j b)) : TT' (tAsg (tTup (tCons ta (tCons tb tNil))) (gTup K 2 (gCons (gName i) (gCons (gName j) gNil)))) ρ p := fun W0 W σ E Dd nx rt bk ct =>
  h1 W0 W σ E _ fun v a W1 g1 r1 p1 => h2 W0 W1 σ (E.grow g1) _ fun w b W2 g2 r2 p2 => ⟨Evl.sz_of (by show 2 ≤ 100000; decide), fun pp hp => by
    have gp := Grow.add (W := W2) (o := .tup [v, w]) hp
    have E2 := (E.set g1 r1 i).set g2 r2 j
    refine ⟨pp, _, rfl, sq_t upd_same, rfl, _, _, rfl, _, _, rfl, rfl, ?_⟩
    exact nx _ (W2.add pp (.tup [v, w]) hp) _ (E2.grow gp) (g1.trans g2).b (k a b p1 p2)⟩
theorem hu1 {n : Nat} (h : n + 64 < cLine) : n + 1 < cLine := by omega
theorem op_sortK {X : Cx} (hK : X.K = K) : CallR X (.builtin "sorted") (rSortedS K) := hK ▸ cr_sortedS
theorem pi_enum1K {X : Cx} {e : Expr} {ta : TA} {p pos tpos cp kp : Pos} {elts : List Expr} {kk ck : Nat} (hK : X.K = K) (hg : Gl X "enumerate") (hm : X.mg "enumerate" = none) (ha : PA X [e] ta)
    (he : backTo pos (starEach [e] X.env) = (false, eval e X.env) :: backTo pos (starEach [] X.env) := by rfl) (hpl : (backTo pos (starEach [e] X.env)).any (·.1) = false := by rfl) :
    PI X (.Tuple elts kk tpos) (.Call (.Name "enumerate" p) [e] [⟨some "start", .Constant (.int 1) ck cp, kp⟩] pos) (iEnum1 K ta) := hK ▸ pi_enum1 hg hm ha he hpl
end
end Nt

namespace Nt
open PySem PySem.Spec PyProof.Rows L2
/-! ### == and in over values of mixed kinds: a line's elements against texts -/
/-- x in (..) | [..], data of any depth -/
def rInA (K : PySem.W.Frag) (neg : Bool) : R2 := fun x y H Q => ∃ d ds, Dp K H x d ∧ (Dp K H y (.list ds) ∨ Dp K H y (.tuple ds)) ∧ SeqAt.shaped d = true ∧ SeqAt.shaped (.list ds) = true ∧ Q (.bl (if neg then !ds.any fun z => PyData.eqv z d else ds.any fun z => PyData.eqv z d)) H
theorem hu65 {A : Around} {k : Nat} (hr : Room k A) : A.units + 65 < cLine := by have := hr.un; omega
section
variable {X : Cx}
theorem lay_lt {ds : List PyData} (h : SeqAt.shaped (.list ds) = true) : PyData.canLayAll0 ds = true := SeqAt.canLay_of_shaped h
theorem op_inA (hu : X.A.units + 65 < cLine) : OpR X (compareOp .In) (rInA X.K false) := fun pins s σ H x y v u Q I rx ry ⟨d, ds, hd, he, sd, se, q⟩ => by
  obtain ⟨as, r1⟩ := Dp.reads I d x v hd rx
  rcases he with he | he
  · obtain ⟨bs, r2⟩ := Dp.reads I _ y u he ry
    exact SeqAt.in_list_reads r2 r1 (lay_lt se) (SeqAt.canLay_of_shaped sd) (room_in_shaped sd hu) ⟨.bl _, H, I, rfl, q⟩
  · obtain ⟨bs, r2⟩ := Dp.reads I _ y u he ry
    exact SeqAt.in_tuple_reads r2 r1 (lay_lt se) (SeqAt.canLay_of_shaped sd) (room_in_shaped sd hu) ⟨.bl _, H, I, rfl, q⟩
theorem op_notInA (hu : X.A.units + 65 < cLine) : OpR X (compareOp .NotIn) (rInA X.K true) := fun pins s σ H x y v u Q I rx ry ⟨d, ds, hd, he, sd, se, q⟩ => by
  obtain ⟨as, r1⟩ := Dp.reads I d x v hd rx
  rcases he with he | he
  · obtain ⟨bs, r2⟩ := Dp.reads I _ y u he ry
    exact SeqAt.notIn_list_reads r2 r1 (lay_lt se) (SeqAt.canLay_of_shaped sd) (room_in_shaped sd hu) ⟨.bl _, H, I, rfl, q⟩
  · obtain ⟨bs, r2⟩ := Dp.reads I _ y u he ry
    exact SeqAt.notIn_tuple_reads r2 r1 (lay_lt se) (SeqAt.canLay_of_shaped sd) (room_in_shaped sd hu) ⟨.bl _, H, I, rfl, q⟩
end
def rInW (K : PySem.W.Frag) (neg : Bool) : R2 := fun x y H Q => rInU K neg x y H Q ∨ rInA K neg x y H Q
theorem op_inW {X : Cx} {K : PySem.W.Frag} (hK : X.K = K) (hu : X.A.units + 65 < cLine) : OpR X (compareOp .In) (rInW K false) := hK ▸ OpR.or op_inU (op_inA hu)
theorem op_notInW {X : Cx} {K : PySem.W.Frag} (hK : X.K = K) (hu : X.A.units + 65 < cLine) : OpR X (compareOp .NotIn) (rInW K true) := hK ▸ OpR.or op_notInU (op_notInA hu)
/-- isinstance(d, T) of data -/
def D.isU : D → String → Bool
  | .bl _, T => T == "bool" || T == "int"
  | .int _, T => T == "int"
  | .str _, T => T == "str"
  | .tup _, T => T == "tuple"
  | .lst _, T => T == "list"
  | .dic _, T => T == "dict"
  | _, _ => false
theorem kitU {d : D} {T : String} (nb : d.pl = true) (hT : T ∈ (["str", "int", "bool", "tuple", "list", "dict"] : List String)) : kitB d.ty T = some (d.isU T) := by
  simp only [List.mem_cons, List.not_mem_nil, or_false] at hT
  rcases hT with rfl | rfl | rfl | rfl | rfl | rfl <;> cases d <;> first | (simp only [D.ty, D.isU]; decide +kernel) | cases nb
/-- an element of a line -/
def elOk : D → Bool
  | .lst ds => ds.all D.ok
  | d => d.ok
def elPy : D → PyData
  | .lst ds => .list (ds.map D.py)
  | d => d.py
def isS (x : D) (s : List Nat) : Bool := match x with
  | .str t => decide (t = s)
  | _ => false
def inS (x : D) (S : List (List Nat)) : Bool := match x with
  | .str t => decide (t ∈ S)
  | _ => false
theorem el_dp {K : PySem.W.Frag} {H H' : Hp} {x : D} {v : V} (e : Ex H H') (h : elOk x = true) (r : Rep H x v) : Dp K H' v (elPy x) := by
  cases r with
  | lst ha ra => exact .lst (sq_l (e _ _ ha)) (py_dpall (fun d hd => D.ok.fl (List.all_eq_true.mp (show (_ : List D).all D.ok = true from h) d hd)) ra)
  | non => exact .non
  | bl b => exact .bl b
  | int i => exact .int i
  | str s => exact .str _
  | _ => exact absurd h (by simp [elOk, D.ok])
theorem el_dpall {K : PySem.W.Frag} {H H' : Hp} (e : Ex H H') : ∀ {ds : List D} {vs : List V}, (∀ d ∈ ds, elOk d = true) → Reps H ds vs → DpAll K H' vs (ds.map elPy)
  | _, _, _, .nil => .nil
  | _, _, f, .cons h r => .cons (el_dp e (f _ List.mem_cons_self) h) (el_dpall e (fun d hd => f d (List.mem_cons_of_mem _ hd)) r)
theorem el_lay {x : D} (h : elOk x = true) : (elPy x).canLay0 = true := by
  cases x with
  | lst ds => exact py_layAll ds (fun d hd => List.all_eq_true.mp (show ds.all D.ok = true from h) d hd)
  | non => exact py_lay (d := .non) h
  | bl b => exact py_lay (d := .bl b) h
  | int i => exact py_lay (d := .int i) h
  | str t => exact py_lay (d := .str t) h
  | _ => exact absurd h (by simp [elOk, D.ok])
theorem el_depth (x : D) : (elPy x).depth ≤ 1 := by
  cases x with
  | lst ds =>
    show PyData.depth (.list (ds.map D.py)) ≤ 1
    have := py_depthAll ds
    simp only [PyData.depth]
    omega
  | _ => simp [elPy, D.py, PyData.depth]
theorem el_shaped {x : D} (h : elOk x = true) : SeqAt.shaped (elPy x) = true := by
  show ((elPy x).canLay0 && decide ((elPy x).depth ≤ 64)) = true
  have := el_depth x
  rw [el_lay h, decide_eq_true (by omega)]; rfl
theorem els_layAll : ∀ ds : List D, (∀ d ∈ ds, elOk d = true) → PyData.canLayAll0 (ds.map elPy) = true
  | [], _ => by simp [PyData.canLayAll0]
  | d :: ds, h => by
    rw [List.map_cons]
    simp only [PyData.canLayAll0, Bool.and_eq_true]
    exact ⟨el_lay (h d List.mem_cons_self), els_layAll ds fun z hz => h z (List.mem_cons_of_mem _ hz)⟩
theorem els_depthAll : ∀ ds : List D, PyData.depthAll (ds.map elPy) ≤ 1
  | [] => by simp [PyData.depthAll]
  | d :: ds => by
    have h1 := els_depthAll ds
    have h2 := el_depth d
    simp only [List.map_cons, PyData.depthAll]
    omega
theorem line_shaped {ds : List D} (h : ∀ d ∈ ds, elOk d = true) : SeqAt.shaped (.tuple (ds.map elPy)) = true := by
  have h1 := els_depthAll ds
  have h2 : PyData.depth (.tuple (ds.map elPy)) ≤ 64 := by simp only [PyData.depth]; omega
  show (PyData.canLay0 (.tuple (ds.map elPy)) && decide (PyData.depth (.tuple (ds.map elPy)) ≤ 64)) = true
  rw [Bool.and_eq_true]
  exact ⟨by simp only [PyData.canLay0]; exact els_layAll ds h, decide_eq_true h2⟩
theorem eqv_isS {x : D} {s : List Nat} (h : elOk x = true) : PyData.eqv (elPy x) (.str ⟨s.toArray⟩) = isS x s := by
  cases x with
  | str t =>
    show ((⟨t.toArray⟩ : Str) == (⟨s.toArray⟩ : Str)) = decide (t = s)
    exact eqV_tx t s
  | non => rfl
  | bl b => rfl
  | int i => rfl
  | lst ds => rfl
  | _ => exact absurd h (by simp [elOk, D.ok])
theorem eqv_isS' {x : D} {s : List Nat} (h : elOk x = true) : PyData.eqv (.str ⟨s.toArray⟩) (elPy x) = isS x s := by
  cases x with
  | str t =>
    show ((⟨s.toArray⟩ : Str) == (⟨t.toArray⟩ : Str)) = decide (t = s)
    rw [show ((⟨s.toArray⟩ : Str) == (⟨t.toArray⟩ : Str)) = decide (s = t) from eqV_tx s t]
    exact decide_eq_decide.mpr ⟨fun e => e.symm, fun e => e.symm⟩
  | non => rfl
  | bl b => rfl
  | int i => rfl
  | lst ds => rfl
  | _ => exact absurd h (by simp [elOk, D.ok])
theorem strs_ok {s : List Nat} (h : ∀ c ∈ s, c < 0x110000) : D.ok (.str s) = true := by
  show s.all _ = true
  exact List.all_eq_true.mpr fun c hc => decide_eq_true (h c hc)
section
variable {K : PySem.W.Frag}
theorem od_eqE {x : D} {s : List Nat} (h : elOk x = true) (hs : D.ok (.str s) = true) : OD (rEqU K) x (.str s) (· = .dat (.bl (isS x s))) := fun W v w r1 r2 Q q => by
  refine .inr ⟨elPy x, .str ⟨s.toArray⟩, el_dp W.le h r1, el_dp (x := .str s) W.le hs r2, el_shaped h, el_shaped (x := .str s) hs, ?_⟩
  rw [eqv_isS h]
  exact dat1 (.bl _) q
theorem od_neE {x : D} {s : List Nat} (h : elOk x = true) (hs : D.ok (.str s) = true) : OD (rNeU K) x (.str s) (· = .dat (.bl (!isS x s))) := fun W v w r1 r2 Q q => by
  refine .inr ⟨elPy x, .str ⟨s.toArray⟩, el_dp W.le h r1, el_dp (x := .str s) W.le hs r2, el_shaped h, el_shaped (x := .str s) hs, ?_⟩
  rw [eqv_isS h]
  exact dat1 (.bl _) q
theorem any_inS {x : D} (h : elOk x = true) : ∀ S : List (List Nat), ((S.map D.str).map D.py).any (fun z => PyData.eqv z (elPy x)) = inS x S
  | [] => by cases x <;> rfl
  | s :: S => by
    rw [List.map_cons, List.map_cons, List.any_cons, any_inS h S]
    show (PyData.eqv (.str ⟨s.toArray⟩) (elPy x) || inS x S) = inS x (s :: S)
    rw [eqv_isS' h]
    cases x with
    | str t =>
      show (decide (t = s) || decide (t ∈ S)) = decide (t ∈ s :: S)
      rw [Bool.eq_iff_iff, Bool.or_eq_true, decide_eq_true_eq, decide_eq_true_eq, decide_eq_true_eq, List.mem_cons]
    | _ => rfl
theorem od_inE {neg : Bool} {x y : D} {S : List (List Nat)} (h : elOk x = true) (hy : Sq y (S.map D.str)) (hS : ∀ s ∈ S, D.ok (.str s) = true) : OD (rInW K neg) x y (· = .dat (.bl (if neg then !inS x S else inS x S))) := fun W v w r1 r2 Q q => by
  have hS' : ∀ d ∈ S.map D.str, d.ok = true := fun d hd => by
    obtain ⟨s, hs, rfl⟩ := List.mem_map.mp hd
    exact hS s hs
  refine .inr ⟨elPy x, (S.map D.str).map D.py, el_dp W.le h r1, ?_, el_shaped h, py_shaped _ hS', ?_⟩
  · generalize hy2 : S.map D.str = L at hy hS'
    cases hy with
    | lst =>
      cases r2 with
      | lst ha ra => exact .inl (.lst (sq_l (W.le _ _ ha)) (py_dpall (fun d hd => D.ok.fl (hS' d hd)) ra))
    | tup =>
      cases r2 with
      | tup ha ra => exact .inr (.tup (sq_t (W.le _ _ ha)) (py_dpall (fun d hd => D.ok.fl (hS' d hd)) ra))
  · rw [any_inS h]
    exact dat1 (.bl _) q
/-- a line of one text, told -/
def isT1 (ds : List D) (s : List Nat) : Bool := match ds with
  | [x] => isS x s
  | _ => false
theorem eqv_T1 {s : List Nat} : ∀ {ds : List D}, (∀ d ∈ ds, elOk d = true) → PyData.eqv (.tuple (ds.map elPy)) (.tuple [.str ⟨s.toArray⟩]) = isT1 ds s
  | [], _ => rfl
  | [x], h => by
    show (PyData.eqv (elPy x) (.str ⟨s.toArray⟩) && true) = isS x s
    rw [eqv_isS (h x List.mem_cons_self), Bool.and_true]
  | x :: y :: r, h => by
    show (PyData.eqv (elPy x) (.str ⟨s.toArray⟩) && false) = false
    rw [Bool.and_false]
theorem eqv_T1' {s : List Nat} : ∀ {ds : List D}, (∀ d ∈ ds, elOk d = true) → PyData.eqv (.tuple [.str ⟨s.toArray⟩]) (.tuple (ds.map elPy)) = isT1 ds s
  | [], _ => rfl
  | [x], h => by
    show (PyData.eqv (.str ⟨s.toArray⟩) (elPy x) && true) = isS x s
    rw [eqv_isS' (h x List.mem_cons_self), Bool.and_true]
  | x :: y :: r, h => by
    show (PyData.eqv (.str ⟨s.toArray⟩) (elPy x) && false) = false
    rw [Bool.and_false]
theorem tup_dp {H H' : Hp} {ds : List D} {v : V} (e : Ex H H') (h : ∀ d ∈ ds, elOk d = true) (r : Rep H (.tup ds) v) : Dp K H' v (.tuple (ds.map elPy)) := by
  cases r with
  | tup ha ra => exact .tup (sq_t (e _ _ ha)) (el_dpall e h ra)
theorem od_eqT1 {ds : List D} {s : List Nat} (h : ∀ d ∈ ds, elOk d = true) (hs : D.ok (.str s) = true) : OD (rEqU K) (.tup ds) (.tup [.str s]) (· = .dat (.bl (isT1 ds s))) := fun W v w r1 r2 Q q => by
  have h2 : ∀ d ∈ [D.str s], elOk d = true := fun d hd => by rw [List.mem_singleton.mp hd]; exact hs
  refine .inr ⟨_, _, tup_dp W.le h r1, tup_dp W.le h2 r2, line_shaped h, line_shaped h2, ?_⟩
  rw [show PyData.eqv (.tuple (ds.map elPy)) (.tuple ([D.str s].map elPy)) = isT1 ds s from eqv_T1 h]
  exact dat1 (.bl _) q
theorem od_inT1 {neg : Bool} {ds : List D} {s t : List Nat} (h : ∀ d ∈ ds, elOk d = true) (hs : D.ok (.str s) = true) (ht : D.ok (.str t) = true) : OD (rInW K neg) (.tup ds) (.lst [.tup [.str s], .tup [.str t]]) (· = .dat (.bl (if neg then !(isT1 ds s || isT1 ds t) else (isT1 ds s || isT1 ds t)))) := fun W v w r1 r2 Q q => by
  have hz : ∀ z, D.ok (.str z) = true → ∀ d ∈ [D.str z], elOk d = true := fun z hz d hd => by rw [List.mem_singleton.mp hd]; exact hz
  refine .inr ⟨.tuple (ds.map elPy), [.tuple [.str ⟨s.toArray⟩], .tuple [.str ⟨t.toArray⟩]], tup_dp W.le h r1, .inl ?_, line_shaped h, ?_, ?_⟩
  · cases r2 with
    | lst ha ra =>
      cases ra with
      | cons x1 ra =>
        cases ra with
        | cons x2 ra =>
          cases ra
          exact .lst (sq_l (W.le _ _ ha)) (.cons (tup_dp (ds := [.str s]) W.le (hz s hs) x1) (.cons (tup_dp (ds := [.str t]) W.le (hz t ht) x2) .nil))
  · have e1 : PyData.canLayAll0 ([D.str s].map elPy) = true := els_layAll _ (hz s hs)
    have e2 : PyData.canLayAll0 ([D.str t].map elPy) = true := els_layAll _ (hz t ht)
    have e1' : PyData.canLayAll0 [.str ⟨s.toArray⟩] = true := e1
    have e2' : PyData.canLayAll0 [.str ⟨t.toArray⟩] = true := e2
    show (PyData.canLay0 (.list [.tuple [.str ⟨s.toArray⟩], .tuple [.str ⟨t.toArray⟩]]) && decide (PyData.depth (.list [.tuple [.str ⟨s.toArray⟩], .tuple [.str ⟨t.toArray⟩]]) ≤ 64)) = true
    rw [Bool.and_eq_true]
    refine ⟨?_, decide_eq_true ?_⟩
    · simp only [PyData.canLay0, PyData.canLayAll0, Bool.and_eq_true, Bool.and_true] at e1' e2' ⊢
      exact ⟨e1', e2'⟩
    · simp [PyData.depth, PyData.depthAll]
  · have e3 : ([PyData.tuple [.str ⟨s.toArray⟩], PyData.tuple [.str ⟨t.toArray⟩]].any fun z => PyData.eqv z (.tuple (ds.map elPy))) = (isT1 ds s || isT1 ds t) := by
      rw [List.any_cons, List.any_cons, List.any_nil, Bool.or_false, eqv_T1' h, eqv_T1' h]
    rw [e3]
    exact dat1 (.bl _) q
end
end Nt

namespace Nt
open PySem PySem.Spec PyProof.Rows L2
/-! ### d.get(e) of a module's dict, the key there or not -/
def tKG2 (K : PySem.W.Frag) (d : Addr) (te : TE) : TE := fun σ H Q => te σ H fun y H2 => ∃ z : Str, y = .str z ∧ ((∃ (u : Value) (v : V), PySem.W.nsIn K d z = some (some u) ∧ RelV v u ∧ Q v H2) ∨ (PySem.W.nsIn K d z = some none ∧ Q .non H2))
section
variable {X : Cx} {o e : Expr} {apos cpos : Pos} {d : Addr} {es : Array DictEntry} {n : Nat} {te : TE}
theorem pe_kget2 {x : Str} {p : Pos} (D : KDict X.K X.w d es n) (hg : Gl X x) (hm : X.mg x = some (.ref d)) (he : PE X e te) (m : M1 X (.Name x p) "get" apos e cpos) (hdb : (x == ("__debug__" : Str)) = false := by decide) :
    PE X (.Call (.Attribute (.Name x p) "get" apos) [e] [] cpos) (tKG2 X.K d te) := by
  refine ⟨fun pins s σ H Q I h => ?_⟩
  refine wpAny_Call_method m.base m.few m.line PySem.F.plainAttrs_dict PySem.F.slot_dict_get PySem.F.type_dict_get (ld_glob I hg hm ?_ hdb)
  obtain ⟨t1, t2⟩ := kd_at I D
  refine ⟨t1, t2, ?_⟩
  rw [m.trees]
  refine Calls.callWith_builtin rfl (Calls.evalArgs_plain (Calls.spliced_cons (thn (he.run pins s σ H _ I h) fun iv s2 ⟨y, H2, I2, ry, z, ey, q2⟩ => Calls.spliced_nil ?_)))
  subst ey
  obtain ⟨t, rfl⟩ := ry
  have hmp := PySem.W.mapOf_K (prog := X.prog) (w := X.w) I2.kIn D.at_ D.lit
  refine call_meetsIn PySem.F.slot_dict_get hmp.typeIs PySem.F.entry_dict_get (PySem.F.args_dict_get_2 _ _) (meets_dict_get (PySem.strKind X.prog X.w) d (PySem.strKind_is X.prog X.w z t) D.low) ⟨_, hmp, ?_⟩
  rcases q2 with ⟨u, v, hu, ru, q2⟩ | ⟨hu, q2⟩
  · rw [PySem.W.find_K D.at_ hu]
    exact ⟨v, H2, I2.tok _, ru, q2⟩
  · rw [PySem.W.find_K D.at_ hu]
    exact ⟨.non, H2, I2.tok _, rfl, q2⟩
end
theorem e_kget2 {K : PySem.W.Frag} {a : Addr} {te : TE} {ρ : List En} {s : List Nat} {d : D} (h : ED te ρ (· = .str s)) (hn : (∃ n : Int, d = .int n ∧ ∃ u, PySem.W.nsIn K a ⟨s.toArray⟩ = some (some u) ∧ RelV (.int n) u) ∨ (d = .non ∧ PySem.W.nsIn K a ⟨s.toArray⟩ = some none)) : ED (tKG2 K a te) ρ (· = d) := fun W0 W σ E Q q => h W0 W σ E _ fun v d' W1 g1 r1 e1 => by
  subst e1
  cases r1
  refine ⟨_, rfl, ?_⟩
  rcases hn with ⟨n, rfl, u, h1, h2⟩ | ⟨rfl, h1⟩
  · exact .inl ⟨u, .int n, h1, h2, q _ _ W1 g1 (.int n) rfl⟩
  · exact .inr ⟨h1, q _ _ W1 g1 .non rfl⟩
/-- a key that the table has not -/
theorem tab_none {fa : List He.Fa} {fn : List He.DefD} {ts : List He.Tab} {w : World} {K : PySem.W.Frag} (c : He.SaysT fa fn ts w K) (i : Nat) {t : He.Tab} (h : ts[i]? = some t) : ∀ z : Str, z ∉ t.2 → PySem.W.nsIn K (t.1 K) z = some none := by
  intro z hz
  have e : ts.map (fun t => He.dicW K (t.1 K)) = ts.map fun t => some (He.keysIn w.params t.2) := congrArg (fun z : He.AlT => z.2) c
  have e2 : (ts.map fun t => He.dicW K (t.1 K))[i]? = (ts.map fun t => some (He.keysIn w.params t.2))[i]? := by rw [e]
  rw [List.getElem?_map, List.getElem?_map, h] at e2
  have e3 : He.dicW K (t.1 K) = some (He.keysIn w.params t.2) := Option.some.inj e2
  unfold He.dicW at e3
  unfold PySem.W.nsIn
  split at e3
  · rename_i cn es nn sl hlk
    rw [hlk]
    dsimp only
    have e4 : es.toList.map He.keyOf = He.keysIn w.params t.2 := by
      split at e3
      · exact Option.some.inj e3
      · cases e3
    have key : ∀ e ∈ es.toList, ∃ x tk, e.key = .str x tk ∧ x ∈ t.2 := fun e he => by
      have h1 : He.keyOf e ∈ He.keysIn w.params t.2 := by rw [← e4]; exact List.mem_map_of_mem he
      obtain ⟨k, hk, e5⟩ := List.mem_map.mp h1
      unfold He.keyOf at e5
      split at e5
      · rename_i x tk hx
        have : k = x := (Prod.mk.inj (Option.some.inj e5)).1
        exact ⟨x, tk, hx, this ▸ hk⟩
      · cases e5
    have h1 : es.toList.find? (·.key.isStr z) = none := by
      rw [List.find?_eq_none]
      intro e he hs
      obtain ⟨x, tk, hx, hm⟩ := key e he
      rw [hx] at hs
      have : x = z := by simpa [Value.isStr] using hs
      exact hz (this ▸ hm)
    have h2 : es.toList.any (·.refKey) = false := by
      rw [List.any_eq_false]
      intro e he hs
      obtain ⟨x, tk, hx, hm⟩ := key e he
      simp [DictEntry.refKey, hx] at hs
    rw [h1]
    dsimp only
    rw [h2]
    rfl
  · cases e3
end Nt

namespace Nt
open PySem PySem.Spec PyProof.Rows L2
section
variable {K : PySem.W.Frag} {ta tb te : TE} {ar : TA} {ρ : List En} {p : Ps}
theorem iv_rng2 {a b : Nat} (h : EA ar ρ (· = [.int (a : Int), .int (b : Int)])) (h1 : a ≤ 100000) (h2 : b ≤ 100000) : IV1 (iRng2 ar) ρ (· = (List.range (b - a)).map fun (i : Nat) => D.int ((a + i : Nat) : Int)) := fun W0 W σ E R q => h W0 W σ E _ fun vs ds W' g r e => by
  subst e
  cases r with
  | cons r rr =>
    cases rr with
    | cons r2 rr =>
    cases rr
    cases r
    cases r2
    have et : ((b : Int) - (a : Int)).toNat = b - a := by omega
    refine ⟨a, b, rfl, ⟨by omega, by omega, by omega, by omega⟩, q _ ((List.range (b - a)).map fun (i : Nat) => D.int ((a + i : Nat) : Int)) W' g ⟨fun W2 e2 i hi => ?_, fun W2 e2 => ?_, fun W2 e2 i x H' hi y => ?_⟩ rfl⟩
    · have : i < b - a := by simpa using hi
      show i < ((b : Int) - (a : Int)).toNat
      omega
    · show ((b : Int) - (a : Int)).toNat ≤ _
      rw [List.length_map, List.length_range]; omega
    · have hi' : i < b - a := by simpa using hi
      refine ⟨y.1, .int ((a + i : Nat) : Int), by rw [List.getElem?_map, List.getElem?_range hi']; rfl, ?_⟩
      have e3 : x = .int ((a : Int) + (i : Int)) := y.2
      rw [e3, show (a : Int) + (i : Int) = ((a + i : Nat) : Int) by omega]
      exact .int _
def rMaxI : List V → Hp → VK → Prop := fun xs H Q => ∃ i j : Int, xs = [.int i, .int j] ∧ Q (.int (if j > i then j else i)) H
theorem e_maxI {i j : Int} (ha : ED ta ρ (· = .int i)) (hb : ED tb ρ (· = .int j)) : ED (tCB rMaxI (tCons ta (tCons tb tNil))) ρ (· = .int (if j > i then j else i)) := fun W0 W σ E Q q =>
  ha W0 W σ E _ fun v x W1 g1 r1 p1 => hb W0 W1 σ (E.grow g1) _ fun w y W2 g2 r2 p2 => by
    subst p1 p2
    cases r1; cases r2
    exact ⟨i, j, rfl, q _ _ W2 (g1.trans g2) (.int _) rfl⟩
theorem t_quad {i j k l : Nat} {a b c d : D} (h : ED te ρ (· = .tup [a, b, c, d])) (n : p.N ((((ρ.set i (.dat a)).set j (.dat b)).set k (.dat c)).set l (.dat d))) : TT' (tAsg te (gTup K 4 (gCons (gName i) (gCons (gName j) (gCons (gName k) (gCons (gName l) gNil)))))) ρ p := fun W0 W σ E Dd nx rt bk ct =>
  h W0 W σ E _ fun v d' W1 g1 r1 e => by
    subst e
    cases r1 with
    | tup ha hr =>
      rename_i adr ws
      cases hr with
      | cons r1 rr =>
        cases rr with
        | cons r2 rr =>
          cases rr with
          | cons r3 rr =>
            cases rr with
            | cons r4 rr =>
              cases rr
              refine ⟨adr, _, rfl, sq_t (W1.le _ _ ha), rfl, _, _, rfl, _, _, rfl, _, _, rfl, _, _, rfl, rfl, ?_⟩
              exact nx _ W1 _ ((((E.set g1 (e := .dat a) r1 i).set (Grow.refl W1) (e := .dat b) r2 j).set (Grow.refl W1) (e := .dat c) r3 k).set (Grow.refl W1) (e := .dat d) r4 l) g1.b n
/-- a number in [a, b], told -/
theorem od_inI2 {neg : Bool} {i a b : Int} : OD (rInW K neg) (.int i) (.lst [.int a, .int b]) (· = .dat (.bl (if neg then !(decide (a = i) || decide (b = i)) else (decide (a = i) || decide (b = i))))) := fun W v w r1 r2 Q q => by
  refine .inr ⟨.int i, [.int a, .int b], el_dp (x := .int i) W.le rfl r1, .inl ?_, rfl, rfl, ?_⟩
  · cases r2 with
    | lst ha ra => exact .lst (sq_l (W.le _ _ ha)) (el_dpall (ds := [.int a, .int b]) W.le (fun d hd => by
        simp only [List.mem_cons, List.not_mem_nil, or_false] at hd
        rcases hd with rfl | rfl <;> rfl) ra)
  · have e : ([PyData.int a, .int b].any fun z => PyData.eqv z (.int i)) = (decide (a = i) || decide (b = i)) := by
      show (PyData.eqv (.int a) (.int i) || (PyData.eqv (.int b) (.int i) || false)) = _
      rw [Bool.or_false]
      have h1 : ∀ x : Int, PyData.eqv (.int x) (.int i) = decide (x = i) := fun x => rfl
      rw [h1, h1]
    rw [e]
    exact dat1 (.bl _) q
end
section
variable {X : Cx}
theorem call_maxIK (hc : X.calm = true) : CallR X (.builtin "max") rMaxI := call_max2 hc
end
end Nt

namespace Nr
open PySem PySem.Spec PySem.Calls PyProof.Rows L2 NdefX
/-! ### an own error's __init__ that begins with super().__init__(text) -/
/-- an own error's instance e, its method-wrapper at u called: the wrapper hands e on to ValueError's own __init__, which lays the arguments anew -/
theorem call_mw {pr : Program} {wo : World} {Ar : Around} {Er : Value → Shared → Prop} {hp : Heap} {gs : Array GenState} {dw : Drawn} {tk : Nat} {oz : OsState} {n1 n2 : Str} {C N1 : Addr} {b1 b2 : List Value} {hd : Bool} {s1 : List Str} {s2 : List Value} {ab : Bool} {cl : Option Bool} {dt : Option Addr} {x0 x1 x2 x3 x5 : Option Value}
    {u e t0 : Addr} {us : List Value} {Q : Value → Shared → Prop} (hC : hp.get? C = some (excClassObj n1 n2 C N1 b1 b2 hd s1 s2 ab cl dt x0 x1 x2 x3 x5 "ValueError.__new__")) (he : hp.get? e = some (HandSPX.excO C t0)) (hu : hp.get? u = some (W.kxs_mw "ValueError.__init__" e)) (hl : us.length ≤ sizeLine)
    (hq : ∀ g1 t1, (∀ b o, b ≠ e → hp.get? b = some o → g1.get? b = some o) → g1.get? e = some (HandSPX.excO C t1) → Q .none ⟨g1, gs, dw, tk, oz⟩) : wpAny (model pr wo) Ar (call (.ref u) us) Q Er ⟨hp, gs, dw, tk, oz⟩ := by
  have kinds : (Value.type "method-wrapper" == Value.type "method" || Value.type "method-wrapper" == Value.type "builtin_function_or_method" || Value.type "method-wrapper" == Value.type "method-wrapper") = true := by decide
  apply wpAny_call; apply codeAny_of_tree
  show wpAny _ Ar.in1 (callAny (.ref u) ⟨us, []⟩) _ _ _
  unfold callAny; apply wpAny_bind; refine wpAny_load hu ?_
  simp only [W.kxs_mw, kinds, if_true]
  refine W.KFB.if_so (by decide) (wpAny_bind (ESX.check_bound F.excBase_ValueError hC he rfl (wpAny_bind (wpAny_pure (wpAny_pure ⟨plainId_quiet F.excBase_ValueError.init.plain _, codeAny_builtin F.excBase_ValueError.initEntry ?_⟩)))))
  rw [Around.under_plainId F.excBase_ValueError.init.plain _]
  wp_walk
  exact hq _ hp.objs.size (fun b o hb ho => by rw [Heap.get?_update_other _ _ (Ne.symm hb)]; exact Heap.get?_push_of_some _ ho) (by rw [Heap.get?_update_self _ (Heap.get?_push_of_some _ he) rfl]; rfl)
/-- what the written part says of the __init__ -/
structure SupFn (P : Program) (K : PySem.W.Frag) (qual : Str) (args : Arguments) (body : List Stmt) (scope : Scope) (C fI : Addr) (fd : FuncData) (cda cc : Addr) : Prop where
  ex : ∃ (oc kV doc pm : Value) (od an : Option Addr) (ct : Value) (osl : Array (Option Value)), fd = PySem.W.ksFn "__init__" qual args body scope .none kV doc pm an (.ref cda) ct cc ∧ K.lookup fI = some ⟨oc, od, .func fd, osl⟩
  cd : PySem.W.codeIn K (.ref cda) qual = true
  code : ∃ (ccl : Value) (cdd : Option Addr) (vs : Array Value) (ccs : Array (Option Value)) (file : Str) (tf : Tok), K.lookup cda = some ⟨ccl, cdd, .fields vs, ccs⟩ ∧ vs[2]? = some (.str file tf) ∧ ((P.main.file : Str) == file) = true
  cell : ∃ (cl : Value) (cld : Option Addr) (csl : Array (Option Value)), K.lookup cc = some ⟨cl, cld, .cell (some (.ref C)), csl⟩
  ini : PySem.W.ks_superIn K C C "__init__" = some (some (.builtin "ValueError.__init__"))
  tp : PySem.W.nsIn K cStatics "thirdparty.any" = some none
  own : PySem.W.mroIn K C (.ref C) = some true
  ve : PySem.W.subIn K (.ref C) (.type "ValueError") = some true
  top : (P.main.scope.names.lookup ("super" : Str)).isSome = false
section
variable {P : Program} {w : World} {K : PySem.W.Frag} {mg : Str → Option Value} {base : Heap} {CX : CXT} {qual : Str} {args : Arguments} {scope : Scope} {C fI cda cc : Addr} {fd : FuncData} {N ps' : List Str} {sp : Sp} {k : Nat} {ar : Arg}
  {m : Str} {j : Nat} {p0 p1 p2 p3 p4 p5 : Pos} {rest : List Stmt}
abbrev supSt (m : Str) (j : Nat) (p0 p1 p2 p3 p4 p5 : Pos) : Stmt := .Expr (.Call (.Attribute (.Call (.Name "super" p0) [] [] p1) "__init__" p2) [.Constant (.str m) j p3] [] p4) p5
theorem sup_ok (Fs : SupFn P K qual args (supSt m j p0 p1 p2 p3 p4 p5 :: rest) scope C fI fd cda cc) (T : OexC K C) (S : NScope N (("self" : Str) :: ps') ["__class__"] scope) (har : (args.posonlyargs ++ args.args).head? = some ar) (ha : ar.arg = "self")
    (hks : scope.names.lookup ("super" : Str) = some .globalImplicit) (hmg : mg "super" = none) (len : ∀ vs H Q E, sp vs H Q E → vs.length = (("self" : Str) :: ps').length)
    (hev : ∀ env : Env, ∃ pl : Sem Bool, eval (.Call (.Attribute (.Call (.Name "super" p0) [] [] p1) "__init__" p2) [.Constant (.str m) j p3] [] p4) env = (do
      let ov ← attributeBase (.Call (.Name "super" p0) [] [] p1) "__init__" env (eval (.Call (.Name "super" p0) [] [] p1) env)
      standAt p2.atName
      let (f, first) ← holding [ov] (getMethod ov "__init__" pl)
      callWith p4 f first (backTo p4 (starEach [.Constant (.str m) j p3] env)) []))
    (hs : ∀ env : Env, swapsWith (.Call (.Attribute (.Call (.Name "super" p0) [] [] p1) "__init__" p2) [.Constant (.str m) j p3] [] p4) none p5.line env = pure false)
    (hbody : ∀ (A : Around) (outer : List Env) (s : Shared) (H : Hp) (vs : List V) (Q : VK) (E : XK), Room k (A.deeper (envF ⟨"__init__", qual, args, supSt m j p0 p1 p2 p3 p4 p5 :: rest, scope, [("__class__", cc)], cda⟩ fI s.heap.objs.size)) → sp vs H Q E →
      ∃ a, vs.head? = some (.ref a) ∧ H a = some (exo a C none) ∧ ∃ t, PSs (ncx CX P w K mg base N ⟨"__init__", qual, args, supSt m j p0 p1 p2 p3 p4 p5 :: rest, scope, [("__class__", cc)], cda⟩ fI A outer s H E) rest t ∧
        t { nx := fun _ H' => Q .non H', rt := Q } (startF N vs [some (.ref C)]) H) :
    FnOk P w K mg base CX (k + 1) fI fd (("self" : Str) :: ps') sp := by
  obtain ⟨⟨oc, kV, doc, pm, od, an, ct, osl, rfl, lk⟩, hcd, ⟨ccl, cdd, vsC, ccs, file, tf, lc, hv2, hfile⟩, ⟨cl, cld, csl, lcc⟩, hini, htp, hown, hve, htop⟩ := Fs
  refine ⟨len, fun A outer s H as us vs Q E hr e0 hb r hsp => ?_⟩
  have hl := len _ _ _ _ hsp
  have low : ∀ b o, base.get? b = some o → s.heap.get? b = some o := fun b o e => (e0.bs b o e).1
  have KX : K.In s.heap := e0.mod.kin.keeps low
  have lim : s.heap.NoLimit := e0.mod.nolimit.keeps low
  obtain ⟨a, ea, eH, t, ht, hq⟩ := hbody A outer s H vs Q E (hr.deeper _) hsp
  have CA : CellsAt [("__class__", cc)] ["__class__"] [some (.ref C)] s.heap H := by
    have hnone : H cc = none := (e0.bs _ _ (e0.mod.kin _ _ lcc)).2
    have hcl : s.heap.IsCell cc (some (.ref C)) := ⟨_, KX _ _ lcc, rfl⟩
    have key : ∀ {y : Str} {c : Addr}, ([("__class__", cc)] : List (Str × Addr)).lookup y = some c → y = "__class__" ∧ c = cc := fun {y c} e => by
      rw [List.lookup_cons] at e
      by_cases hy : y = "__class__"
      · subst hy
        simp at e
        exact ⟨rfl, e.symm⟩
      · have hf : (y == ("__class__" : Str)) = false := beq_eq_false_iff_ne.mpr hy
        rw [hf] at e
        cases e
    refine ⟨rfl, fun y c e => ?_, fun x y c e1 e2 => ?_, fun i y e => ?_⟩
    · obtain ⟨rfl, rfl⟩ := key e
      exact ⟨hnone, _, hcl⟩
    · rw [(key e1).1, (key e2).1]
    · cases i with
      | zero =>
        cases e
        refine ⟨cc, rfl, fun v e => ?_⟩
        cases e
        exact ⟨_, rfl, hcl⟩
      | succ i => cases e
  have hcell := S.nocell
  have hloc : ∀ y ∈ (("self" : Str) :: ps').zip us, scope.names.lookup y.1 = some .local := fun ⟨n, v⟩ hy => S.par n (List.of_mem_zip hy).1
  refine ks_codeAny_call_defAt (fd := PySem.W.ksFn "__init__" qual args (supSt m j p0 p1 p2 p3 p4 p5 :: rest) scope .none kV doc pm an (.ref cda) ct cc) (body := supSt m j p0 p1 p2 p3 p4 p5 :: rest) (binds := (("self" : Str) :: ps').zip us)
    hr.depth (KX _ _ lk) rfl lim (PySem.W.codeRec_of KX hcd) rfl hb hcell hloc (fun h₁ hns kp => ?_) S.co S.gen S.kind
  have I : Inv (ncx CX P w K mg base N ⟨"__init__", qual, args, supSt m j p0 p1 p2 p3 p4 p5 :: rest, scope, [("__class__", cc)], cda⟩ fI A outer s H E) [] (startF N vs [some (.ref C)]) H { s with heap := h₁, toks := s.toks + ((("self" : Str) :: ps').zip us).length } :=
    inv_startN S hr.hd e0 hl r CA hns kp
  have KX1 : K.In h₁ := KX.keeps kp
  obtain ⟨nm, qc, Nc, bs, bm, sn, sub, ab, col, dd, k0, k1, k2, k3, k5, hC, hbm⟩ := T.cls
  have hcl : PySem.W.clsIn K C = some { name := nm, bases := bs, mro := .ref C :: bm, ns := Nc, qualname := qc, hasDict := true, slotNames := sn, subclasses := sub, abstract := ab, collection := col, hasDel := false } := by unfold PySem.W.clsIn; rw [hC] <;> rfl
  obtain ⟨t1, ho⟩ := exo_at I.hok eH
  obtain ⟨us', rfl⟩ : ∃ us', us = .ref a :: us' := by
    cases vs with
    | nil => cases ea
    | cons v vs' =>
      cases ea
      cases r with
      | cons r0 r' =>
        rename_i u ur
        have : u = Value.ref a := r0
        exact ⟨ur, by rw [this]⟩
  have ndp : ((("self" : Str) :: ps')).Nodup := by
    have q := S.nd.sublist (List.take_sublist ((("self" : Str) :: ps').length + [("__class__" : Str)].length) N)
    rw [S.pre] at q
    exact (List.nodup_append.mp q).1
  have hself : (((("self" : Str) :: ps').zip (Value.ref a :: us')).reverse.lookup ("self" : Str)) = some (Value.ref a) := zip_look (i := 0) (us := Value.ref a :: us') ndp (by rfl) (by rfl)
  obtain ⟨pl, hev⟩ := hev (callEnv (PySem.W.ksFn "__init__" qual args (supSt m j p0 p1 p2 p3 p4 p5 :: rest) scope .none kV doc pm an (.ref cda) ct cc) s.heap.objs.size fI)
  refine ks_wpAt_execs_cons (ks_wpAt_Expr_any (ks_wpAt_MethodCall ?_ hev) (by show (scope.kind == .module && _) = false; rw [S.kind]; rfl) (hs _))
  refine ks_wpAt_super_base (env := callEnv (PySem.W.ksFn "__init__" qual args (supSt m j p0 p1 p2 p3 p4 p5 :: rest) scope .none kV doc pm an (.ref cda) ct cc) s.heap.objs.size fI) hks (S.frk _ (List.mem_cons_self)) (by decide) rfl (KX1 _ _ lk) rfl har rfl (KX1 _ _ lc) rfl hv2 hfile htop ?_
  obtain ⟨mb, hb1, hb2⟩ := I.mod.blt
  refine PySem.W.ks_loadName_global S.kind hks (Calls.loadGlobal_builtin (by rw [show (callEnv (PySem.W.ksFn "__init__" qual args (supSt m j p0 p1 p2 p3 p4 p5 :: rest) scope .none kV doc pm an (.ref cda) ct cc) s.heap.objs.size fI).globals = mainGlobals from rfl]; exact I.mod.glob.keeps I.bk) hmg (hb1.keeps I.bk) ((hb2 _ (by decide)).trans (by first | rfl | kernel_rfl)) ⟨rfl, ?_⟩)
  refine wpAny_loadName_free S.kind (S.frk _ (List.mem_cons_self)) rfl ⟨_, KX1 _ _ lcc, rfl⟩ ?_
  rw [ha]
  refine wpAny_loadName_local S.kind (S.par _ (List.mem_cons_self)) hns hself ?_
  have hC1 : h₁.get? C = some (excClassObj nm qc C Nc bs bm true sn sub ab col dd k0 k1 k2 k3 k5 "ValueError.__new__") := KX1 _ _ hC
  have ho1 : h₁.get? a = some (HandSPX.excO C t1) := ho
  refine ks_wpAny_isType_cls hC1 rfl ⟨rfl, ?_⟩
  refine ks_wpAny_call_super hC1 rfl ho1 rfl (fun c e => by cases e) (PySem.W.looks_mroIn KX1 hown) (fun h2 hso k2' => ?_)
  have KX2 : K.In h2 := KX1.keeps k2'
  have I2' : PySem.W.InstAt h2 a (HandSPX.excO C t1) C none := ⟨k2' _ _ ho1, rfl, rfl, trivial⟩
  refine PySem.W.kxs_getMethod PySem.W.kxs_ValueError hso (PySem.W.looks_opaque KX2 htp) (l₀ := .ref C :: bm) ((PySem.W.looks_clsIn KX2 hcl).andThen .now) rfl KX2 (by
    have z := hini
    unfold PySem.W.ks_superIn at z
    rw [hcl] at z
    exact z) (I2'.type.andThen (PySem.W.looks_subIn KX2 hve)) (PySem.W.ks_ne KX2 I2' hcl) (by decide) ?_
  have hmw : (h2.push (PySem.W.kxs_mw "ValueError.__init__" a)).get? h2.objs.size = some (PySem.W.kxs_mw "ValueError.__init__" a) := Heap.get?_push_at rfl rfl
  have up : ∀ b o, h₁.get? b = some o → (h2.push (PySem.W.kxs_mw "ValueError.__init__" a)).get? b = some o := fun b o e => Heap.get?_push_of_some _ (k2' b o e)
  refine PySem.W.kxs_callWith (i := "ValueError.__init__") (x := a) rfl (evalArgs_plain (Calls.spliced_cons (Calls.Constant_str (k := j) (pos := p3) (Calls.spliced_nil ⟨hmw, ?_⟩))))
  show wpAny _ _ (call (.ref h2.objs.size) [.str m _]) _ _ _
  refine call_mw (up _ _ hC1) (up _ _ ho1) hmw (show 1 ≤ sizeLine by decide) (fun h3 t3 k3' e3 => ?_)
  have J := I.write (t' := s.toks + ((("self" : Str) :: ps').zip (Value.ref a :: us')).length + 1 + 1) (x := a) (e := a) (o := exo a C none) (by rw [eH]; exact True.intro) (.inl rfl) (fun b o hb e => k3' b o hb (up b o e)) ⟨_, e3⟩ (exo_ok e3)
  have eu : upd H a (exo a C none) = H := funext fun b => (Decidable.em (b = a)).elim (fun hb => by rw [hb, upd_same, eH]) fun hb => upd_ne hb
  rw [eu] at J
  refine wpAt_of_wpAny (wpAny_mono (ht.run [] _ (startF N vs [some (.ref C)]) H _ J hq) (fun fl s' hs => ?_) fun e s' hs => hs)
  have fin : ∀ {σ' : L2.St} {H' : Hp} {v : V} {u : Value}, Inv (ncx CX P w K mg base N ⟨"__init__", qual, args, supSt m j p0 p1 p2 p3 p4 p5 :: rest, scope, [("__class__", cc)], cda⟩ fI A outer s H E) [] σ' H' s' → L2.RelV v u → Q v H' → CE outer P w H s Q u s' :=
    fun {σ' H' v u} Iv rr qq => ⟨v, H', Iv.os, Iv.bare, Iv.base, Iv.hok, rr, qq⟩
  cases fl with
  | ret u =>
    obtain ⟨v, σ', H', Iv, rr, qq⟩ := hs
    exact fin Iv rr qq
  | next =>
    obtain ⟨σ', H', Iv, qq⟩ := hs
    exact fin (v := V.non) (u := Value.none) Iv rfl qq
  | brk =>
    obtain ⟨_, _, _, q⟩ := hs
    exact False.elim q
  | cont =>
    obtain ⟨_, _, _, q⟩ := hs
    exact False.elim q
end
/-- C(), an own error as a value, C's own __init__ keeping sp -/
def tNewO (C : Addr) (sp : Sp) : TE := fun σ H Q => ∀ a, H a = none → sp [.ref a] (upd H a (exo a C none)) (fun v H2 => v = .non ∧ Q (.ref a) H2) fun _ _ _ => False
section
variable {X : Cx} {CX : CXT} {x : Str} {C fI : Addr} {k : Nat} {fd : FuncData} {sp : Sp} {p pos : Pos}
theorem pe_new0 (T : OexC X.K C) (iC : PySem.W.findIn X.K (.ref C) "__init__" = some (some (.ref fI))) (tI : PySem.W.typeIn X.K (.ref fI) = some (.type "function"))
    (F1 : FnOk X.prog X.w X.K X.mg X.base CX k fI fd ["self"] sp) (hr : Room (k + 1) X.A) (hb : Binds X.K fd ["self"] []) (hx : Passes CX X (fun _ _ _ => False)) (hg : Gl X x) (hm : X.mg x = some (.ref C))
    (hdb : (x == ("__debug__" : Str)) = false := by decide) : PE X (.Call (.Name x p) [] [] pos) (tNewO C sp) := by
  obtain ⟨n1, n2, N1, b1, bm, s1, s2, ab, cl, dt, x0, x1, x2, x3, x5, hC, hbm⟩ := T.cls
  constructor; intro pins s σ H Q I h
  apply wpAny_Call_Name_kw; refine ld_glob I hg hm ?_ hdb
  refine PySem.W.callWith_K0 I.kIn T.kC ?_
  show wpAny _ _ (call (.ref C) []) _ _ _
  obtain ⟨h0, gs, dr, tz, os⟩ := s
  have ge0 : h0.objs.size ≤ h0.objs.size + 1 := Nat.le_succ _
  have hn : H (h0.objs.size + 1) = none := I.hok.fresh ge0
  have hq := h (h0.objs.size + 1) hn
  have kk : ∀ b o, h0.get? b = some o → ((h0.push (PySem.W.kdv_tup [])).push (PySem.HandSPX.excO C h0.objs.size)).get? b = some o := fun b o e => Heap.get?_push_of_some _ (Heap.get?_push_of_some _ e)
  have hget : ((h0.push (PySem.W.kdv_tup [])).push (PySem.HandSPX.excO C h0.objs.size)).get? (h0.objs.size + 1) = some (PySem.HandSPX.excO C h0.objs.size) := by heap_get
  have I2 : Inv X pins σ (upd H (h0.objs.size + 1) (exo (h0.objs.size + 1) C none)) ⟨(h0.push (PySem.W.kdv_tup [])).push (PySem.HandSPX.excO C h0.objs.size), gs, dr, tz, os⟩ :=
    I.laid (t' := tz) (a := h0.objs.size + 1) (o := exo (h0.objs.size + 1) C none) (h' := (h0.push (PySem.W.kdv_tup [])).push (PySem.HandSPX.excO C h0.objs.size)) kk ge0 (exo_ok hget)
  have r2 : Vals [V.ref (h0.objs.size + 1)] [Value.ref (h0.objs.size + 1)] := .cons rfl .nil
  refine wpAny_call (PySem.HandSPX.call_own F.excBase_ValueError (fun Y => PySem.HandSPX.refsVE_contains Y bm hbm) (I.kIn _ _ hC) (PySem.W.looks_findIn I.kIn iC) (fun self => PySem.W.bind_fn I.kIn self tI) (Nat.zero_le _)
    (codeAny_mono (F1.run _ X.stack _ _ ⟨[Value.ref (h0.objs.size + 1)], []⟩ [Value.ref (h0.objs.size + 1)] _ _ (fun _ _ _ => False) (hr.make C [] []) (I2.env0.make C [] []) (hb _ [Value.ref (h0.objs.size + 1)] I2.kIn rfl) r2 hq) fun r s' rq => ?_))
  cases r with
  | error er => exact hx pins σ _ _ er s' I2 rq
  | ok fl =>
    cases fl with
    | ret u =>
      have z := I2.after (show CE X.stack X.prog X.w _ _ _ u s' from rq)
      obtain ⟨v, H2, J, rv, ev, q2⟩ := z
      subst ev
      exact ⟨rv, .ref _, H2, J, rfl, q2⟩
    | _ => exact (False.elim rq)
end
end Nr

namespace Nr
open PySem PySem.Spec PySem.Calls PyProof.Rows L2 NdefX He
/-! ### what the head tells of own error classes -/
/-- an instance of such a class is asked by isinstance -/
structure ExCls (K : PySem.W.Frag) (C : Addr) : Prop where
  (cl : (PySem.W.clsIn K C).isSome = true)
  (ga : PySem.W.findIn K (.ref C) "__getattribute__" = some (some (.builtin "BaseException.__getattribute__")))
  (gt : PySem.W.findIn K (.ref C) "__getattr__" = some none)
  (ex : PySem.W.subIn K (.ref C) (.type "BaseException") = some true)
  (cs : PySem.W.findIn K (.ref C) "__class__" = some (some (.builtin "object.__class__")))
  (sp : PySem.W.specialIn K (.builtin "object.__class__") "__get__" = some (some (.builtin "getset_descriptor.__get__")))
  (tk : PySem.W.takesIn K (.builtin "object.__class__") = some true)
  (ob : PySem.W.mroIn K C (.type "object") = some true)
  (no : ∀ T ∈ (["str", "int", "bool", "tuple", "list", "dict"] : List String), PySem.W.kitOne K (.ref C) (.type T) = some false)
def exClsB (K : PySem.W.Frag) (C : Addr) : Bool :=
  (PySem.W.clsIn K C).isSome && (PySem.W.findIn K (.ref C) "__getattribute__" == some (some (.builtin "BaseException.__getattribute__")) && (PySem.W.findIn K (.ref C) "__getattr__" == some none &&
  (PySem.W.subIn K (.ref C) (.type "BaseException") == some true && (PySem.W.findIn K (.ref C) "__class__" == some (some (.builtin "object.__class__")) && (PySem.W.specialIn K (.builtin "object.__class__") "__get__" == some (some (.builtin "getset_descriptor.__get__")) &&
  (PySem.W.takesIn K (.builtin "object.__class__") == some true && (PySem.W.mroIn K C (.type "object") == some true && (["str", "int", "bool", "tuple", "list", "dict"] : List String).all fun T => PySem.W.kitOne K (.ref C) (.type T) == some false)))))))
theorem exClsB_ok {K : PySem.W.Frag} {C : Addr} (h : exClsB K C = true) : ExCls K C := by
  obtain ⟨h1, h⟩ := ba h
  obtain ⟨h2, h⟩ := ba h
  obtain ⟨h3, h⟩ := ba h
  obtain ⟨h4, h⟩ := ba h
  obtain ⟨h5, h⟩ := ba h
  obtain ⟨h6, h⟩ := ba h
  obtain ⟨h7, h⟩ := ba h
  obtain ⟨h8, h9⟩ := ba h
  exact ⟨h1, beq_iff_eq.mp h2, beq_iff_eq.mp h3, beq_iff_eq.mp h4, beq_iff_eq.mp h5, beq_iff_eq.mp h6, beq_iff_eq.mp h7, beq_iff_eq.mp h8, fun T hT => beq_iff_eq.mp (List.all_eq_true.mp h9 T hT)⟩
def mroB (C : Addr) : List Value → Bool
  | .ref C' :: bm => decide (C' = C) && PySem.HandSPX.refsVE bm
  | _ => false
theorem mroB_ok {C : Addr} {l : List Value} (h : mroB C l = true) : ∃ bm, l = .ref C :: bm ∧ PySem.HandSPX.refsVE bm = true := by
  cases l with
  | nil => cases h
  | cons v bm =>
    cases v with
    | ref C' =>
      obtain ⟨b1, b2⟩ := ba (show (decide (C' = C) && PySem.HandSPX.refsVE bm) = true from h)
      exact ⟨bm, by rw [of_decide_eq_true b1], b2⟩
    | _ => cases h
def slB : List (Option Value) → Bool
  | _ :: _ :: _ :: _ :: k4 :: _ :: [] => k4 == some (.builtin "ValueError.__new__")
  | _ => false
theorem slB_ok {l : List (Option Value)} (h : slB l = true) : ∃ k0 k1 k2 k3 k5, l = [k0, k1, k2, k3, some (.builtin "ValueError.__new__"), k5] := by
  match l, h with
  | [k0, k1, k2, k3, k4, k5], h =>
    have e : k4 = some (.builtin "ValueError.__new__") := beq_iff_eq.mp h
    exact ⟨k0, k1, k2, k3, k5, by rw [e]⟩
def oexB (K : PySem.W.Frag) (C : Addr) : Bool := (match K.lookup C with
  | some ⟨.type c, _, .cls cd, sl⟩ => decide (c = "type") && (cd.hasDict && (!cd.hasDel && (mroB C cd.mro && slB sl.toList)))
  | _ => false) && (PySem.W.findIn K (.ref C) "__setattr__" == some (some (.builtin "object.__setattr__")) && (PySem.W.subIn K (.ref C) (.type "BaseException") == some true && (PySem.W.typeIn K (.ref C) == some (.type "type") && PySem.W.keepIn K (.ref C))))
theorem oexB_ok {K : PySem.W.Frag} {C : Addr} (h : oexB K C = true) : OexC K C := by
  obtain ⟨h1, h⟩ := ba h
  obtain ⟨h2, h⟩ := ba h
  obtain ⟨h3, h⟩ := ba h
  obtain ⟨h4, h5⟩ := ba h
  refine ⟨?_, beq_iff_eq.mp h2, beq_iff_eq.mp h3, beq_iff_eq.mp h4, h5⟩
  cases q : K.lookup C with
  | none =>
    rw [q] at h1
    cases h1
  | some o =>
    obtain ⟨oc, od, dt, sl⟩ := o
    rw [q] at h1
    cases oc with
    | type c =>
      cases dt with
      | cls cd =>
        obtain ⟨a1, a2⟩ := ba h1
        obtain ⟨a3, a4⟩ := ba a2
        obtain ⟨a5, a6⟩ := ba a4
        obtain ⟨a7, a8⟩ := ba a6
        obtain ⟨c1, c2, c3, c4, c5, c6, c7, c8, c9, c10, c11⟩ := cd
        have e1 : c = "type" := of_decide_eq_true a1
        have e6 : c6 = true := a3
        have e11 : c11 = false := by
          cases c11 with
          | false => rfl
          | true => cases a5
        subst e1 e6 e11
        obtain ⟨bm, e3, b2⟩ := mroB_ok (show mroB C c3 = true from a7)
        subst e3
        obtain ⟨k0, k1, k2, k3, k5, es⟩ := slB_ok a8
        obtain ⟨l⟩ := sl
        have es' : l = [k0, k1, k2, k3, some (.builtin "ValueError.__new__"), k5] := es
        subst es'
        exact ⟨_, _, _, _, _, _, _, _, _, _, _, _, _, _, _, rfl, b2⟩
      | _ => cases h1
    | _ => cases dt <;> cases h1
abbrev FnC : Type := Option (Str × Str × Arguments × FuncBody × Scope × Addr × List Str × Addr)
def fnC (K : PySem.W.Frag) (f : Addr) : FnC := match K.lookup f with
  | some ⟨_, _, .func fd, _⟩ => some (fd.name, fd.qualname, fd.params, fd.body, fd.scope, fd.globals, fd.closure.map (·.1), fd.builtins)
  | _ => none
def fileB (f : Str) : Option Value → Bool
  | some (.str file _) => f == file
  | _ => false
theorem fileB_ok {f : Str} {v : Option Value} (h : fileB f v = true) : ∃ file tf, v = some (.str file tf) ∧ (f == file) = true := by
  cases v with
  | none => cases h
  | some u =>
    cases u with
    | str file tf => exact ⟨file, tf, rfl, h⟩
    | _ => cases h
def fldB (f : Str) : Option Obj → Bool
  | some ⟨_, _, .fields vs, _⟩ => fileB f vs[2]?
  | _ => false
theorem fldB_ok {f : Str} {o : Option Obj} (h : fldB f o = true) : ∃ ccl cdd vs ccs file tf, o = some ⟨ccl, cdd, .fields vs, ccs⟩ ∧ vs[2]? = some (.str file tf) ∧ (f == file) = true := by
  cases o with
  | none => cases h
  | some o =>
    obtain ⟨oc, od, dt, sl⟩ := o
    cases dt with
    | fields vs =>
      obtain ⟨file, tf, e, g⟩ := fileB_ok (show fileB f vs[2]? = true from h)
      exact ⟨oc, od, vs, sl, file, tf, rfl, e, g⟩
    | _ => cases h
def codB (P : Program) (K : PySem.W.Frag) : Value → Bool
  | .ref cda => fldB P.main.file (K.lookup cda)
  | _ => false
def celB (C : Addr) : Option Obj → Bool
  | some ⟨_, _, .cell (some v), _⟩ => v == .ref C
  | _ => false
theorem celB_ok {C : Addr} {o : Option Obj} (h : celB C o = true) : ∃ cl cld csl, o = some ⟨cl, cld, .cell (some (.ref C)), csl⟩ := by
  cases o with
  | none => cases h
  | some o =>
    obtain ⟨oc, od, dt, sl⟩ := o
    cases dt with
    | cell v =>
      cases v with
      | none => cases h
      | some v =>
        have e : v = .ref C := beq_iff_eq.mp (show (v == .ref C) = true from h)
        subst e
        exact ⟨oc, od, sl, rfl⟩
    | _ => cases h
def cloB (K : PySem.W.Frag) (C : Addr) : List (Str × Addr) → Bool
  | (_, cc) :: [] => celB C (K.lookup cc)
  | _ => false
/-- an own error class by its name, its __init__, the fields that it stores -/
structure ErrD where
  x : Str
  qual : Str
  params : Arguments
  body : List Stmt
  scope : Scope
  fields : List Str
def iniAd (K : PySem.W.Frag) (x : Str) : Addr := ma K (ga K x) "__init__"
def ErrD.val (d : ErrD) : FnC := some ("__init__", d.qual, d.params, .stmts d.body, d.scope, mainGlobals, ["__class__"], builtinsNs)
def ErrD.ok (P : Program) (K : PySem.W.Frag) (d : ErrD) : Bool :=
  (match K.lookup (iniAd K d.x) with
  | some ⟨_, _, .func fd, _⟩ => (fd.defaults == .none) && (PySem.W.codeIn K fd.code d.qual && (codB P K fd.code && cloB K (ga K d.x) fd.closure))
  | _ => false) && (PySem.W.ks_superIn K (ga K d.x) (ga K d.x) "__init__" == some (some (.builtin "ValueError.__init__")) && (PySem.W.nsIn K cStatics "thirdparty.any" == some none && (PySem.W.mroIn K (ga K d.x) (.ref (ga K d.x)) == some true &&
  (PySem.W.subIn K (.ref (ga K d.x)) (.type "ValueError") == some true && (!(P.main.scope.names.lookup ("super" : Str)).isSome && (PySem.W.findIn K (.ref (ga K d.x)) "__init__" == some (some (.ref (iniAd K d.x))) && (PySem.W.typeIn K (.ref (iniAd K d.x)) == some (.type "function") &&
  (oexB K (ga K d.x) && (exClsB K (ga K d.x) && d.fields.all fun f => PySem.W.findIn K (.ref (ga K d.x)) f == some none)))))))))
/-- an own error class, all told -/
structure ErrC (P : Program) (K : PySem.W.Frag) (d : ErrD) (C fI : Addr) (fd : FuncData) : Prop where
  sup : ∃ cda cc, SupFn P K d.qual d.params d.body d.scope C fI fd cda cc
  ini : PySem.W.findIn K (.ref C) "__init__" = some (some (.ref fI))
  ity : PySem.W.typeIn K (.ref fI) = some (.type "function")
  oex : OexC K C
  cls : ExCls K C
  nof : ∀ f ∈ d.fields, PySem.W.findIn K (.ref C) f = some none
theorem errC_of {P : Program} {K : PySem.W.Frag} {d : ErrD} (e : fnC K (iniAd K d.x) = d.val) (h : d.ok P K = true) : ∃ fd, ErrC P K d (ga K d.x) (iniAd K d.x) fd := by
  obtain ⟨h1, h⟩ := ba h
  obtain ⟨h2, h⟩ := ba h
  obtain ⟨h3, h⟩ := ba h
  obtain ⟨h4, h⟩ := ba h
  obtain ⟨h5, h⟩ := ba h
  obtain ⟨h6, h⟩ := ba h
  obtain ⟨h7, h⟩ := ba h
  obtain ⟨h8, h⟩ := ba h
  obtain ⟨h9, h⟩ := ba h
  obtain ⟨h10, h11⟩ := ba h
  have h6' : (P.main.scope.names.lookup ("super" : Str)).isSome = false := by
    cases z : (P.main.scope.names.lookup ("super" : Str)).isSome with
    | false => rfl
    | true => rw [z] at h6; cases h6
  cases q : K.lookup (iniAd K d.x) with
  | none =>
    rw [q] at h1
    cases h1
  | some o =>
    obtain ⟨oc, od, dt, osl⟩ := o
    unfold fnC at e
    rw [q] at h1 e
    cases dt with
    | func fd =>
      obtain ⟨n1, n2, n3, n4, n5, n6, n7, n8, n9, n10, n11, n12, n13, n14, n15⟩ := fd
      have e2 : (some (n1, n2, n3, n4, n5, n6, n7.map (·.1), n15) : FnC) = some (("__init__" : Str), d.qual, d.params, .stmts d.body, d.scope, mainGlobals, [("__class__" : Str)], builtinsNs) := e
      simp only [Option.some.injEq, Prod.mk.injEq] at e2
      obtain ⟨g1, g2, g3, g4, g5, g6, g7, g8⟩ := e2
      subst g1 g2 g3 g4 g5 g6 g8
      obtain ⟨a1, a⟩ := ba h1
      obtain ⟨a2, a⟩ := ba a
      obtain ⟨a3, a4⟩ := ba a
      have e8 : n8 = .none := beq_iff_eq.mp a1
      subst e8
      obtain ⟨cda, rfl⟩ : ∃ cda, n13 = .ref cda := by
        cases n13 with
        | ref c => exact ⟨c, rfl⟩
        | _ => cases a3
      obtain ⟨cc, rfl⟩ : ∃ cc : Addr, n7 = [(("__class__" : Str), cc)] := by
        cases n7 with
        | nil => cases g7
        | cons p r =>
          obtain ⟨y, c⟩ := p
          cases r with
          | nil =>
            have : y = ("__class__" : Str) := List.head_eq_of_cons_eq g7
            exact ⟨c, by rw [this]⟩
          | cons _ _ =>
            have := List.tail_eq_of_cons_eq g7
            cases this
      refine ⟨_, ⟨cda, cc, ⟨oc, n9, n10, n11, od, n12, n14, osl, rfl, q⟩, a2, ?_, ?_, beq_iff_eq.mp h2, beq_iff_eq.mp h3, beq_iff_eq.mp h4, beq_iff_eq.mp h5, h6'⟩, beq_iff_eq.mp h7, beq_iff_eq.mp h8, oexB_ok h9, exClsB_ok h10, fun f hf => beq_iff_eq.mp (List.all_eq_true.mp h11 f hf)⟩
      · obtain ⟨ccl, cdd, vs, ccs, file, tf, e1, e2, e3⟩ := fldB_ok (show fldB P.main.file (K.lookup cda) = true from a3)
        exact ⟨ccl, cdd, vs, ccs, file, tf, e1, e2, e3⟩
      · exact celB_ok (show celB (ga K d.x) (K.lookup cc) = true from a4)
    | _ => cases h1
/-! ### the Hook -/
def asE (g : Addr → Option Obj) (n : Nat) : List Addr := cStatics :: asD g n
abbrev AlE : Type := AlT × Bool × List FnC
def obsE (n : Nat) (fa : List Fa) (fn : List DefD) (ts : List Tab) (es : List ErrD) (ex : PySem.W.Frag → Bool) (g : Addr → Option Obj) : AlE :=
  (obsT fa fn ts (frG g (asE g n)), ex (frG g (asE g n)), es.map fun d => fnC (frG g (asE g n)) (iniAd (frG g (asE g n)) d.x))
def valE (fn : List DefD) (ts : List Tab) (es : List ErrD) (w : World) : AlE := (valT fn ts w, true, es.map ErrD.val)
structure SaysE (fa : List Fa) (fn : List DefD) (ts : List Tab) (es : List ErrD) (ex : PySem.W.Frag → Bool) (w : World) (K : PySem.W.Frag) : Prop where
  t : SaysT fa fn ts w K
  more : ex K = true
  fns : (es.map fun d => fnC K (iniAd K d.x)) = es.map ErrD.val
def hookE (n : Nat) (fa : List Fa) (fn : List DefD) (ts : List Tab) (es : List ErrD) (ex : PySem.W.Frag → Bool) : PySem.W.Hook where
  α := AlE
  obs := fun s => obsE n fa fn ts es ex s.heap.get?
  val := fun w => valE fn ts es w
  says := fun w h => ∃ K : PySem.W.Frag, K.In h ∧ SaysE fa fn ts es ex w K
  of := fun _ _ e => ⟨_, frG_in, congrArg (fun z : AlE => z.1) e, congrArg (fun z : AlE => z.2.1) e, congrArg (fun z : AlE => z.2.2) e⟩
  keeps := fun _ _ _ ⟨K, inh, says⟩ up => ⟨K, PySem.W.Frag.In.keeps inh up, says⟩
theorem obsE_eq {n : Nat} {fa : List Fa} {fn : List DefD} {ts : List Tab} {es : List ErrD} {ex : PySem.W.Frag → Bool} {g : Addr → Option Obj} {s : Shared} (h : ∀ a, g a = s.heap.get? a) : obsE n fa fn ts es ex g = (hookE n fa fn ts es ex).obs s := by
  have e := (funext h : g = s.heap.get?)
  rw [e] <;> rfl
theorem SaysE.err {fa : List Fa} {fn : List DefD} {ts : List Tab} {es : List ErrD} {ex : PySem.W.Frag → Bool} {w : World} {K : PySem.W.Frag} {P : Program} (c : SaysE fa fn ts es ex w K) (i : Nat) {d : ErrD} (h : es[i]? = some d) (hk : d.ok P K = true) : ∃ fd, ErrC P K d (ga K d.x) (iniAd K d.x) fd := by
  have e2 : (es.map fun d => fnC K (iniAd K d.x))[i]? = (es.map ErrD.val)[i]? := by rw [c.fns]
  rw [List.getElem?_map, List.getElem?_map, h] at e2
  exact errC_of (Option.some.inj e2) hk
end Nr

namespace Nt
open PySem PySem.Spec PyProof.Rows L2
/-! ### own errors as values -/
def spI1 (C : Addr) (code : Str) : Sp := fun vs H Q E => ∃ a, vs = [.ref a] ∧ H a = some (exo a C none) ∧ ∀ d, H d = none → d ≠ a → Q .non (upd (upd H d (exd d [("code", .str code)])) a (exo a C (some d)))
theorem len_spI1 {C : Addr} {code : Str} : ∀ vs H Q E, spI1 C code vs H Q E → vs.length = 1 := fun vs H Q E ⟨a, e, _⟩ => by rw [e] <;> rfl
section
variable {K : PySem.W.Frag} {ta tb tc te : TE} {ρ : List En} {P : En → Prop}
theorem e_new0 {C : Addr} {code : Str} : ED (Nr.tNewO C (spI1 C code)) ρ (· = .obj C) := fun W0 W σ E Q q => fun a ha => by
  refine ⟨a, rfl, upd_same, fun d hd hda => ⟨rfl, ?_⟩⟩
  have hd' : W.h d = none := by rw [upd_ne hda] at hd; exact hd
  have g1 := Grow.put (W := W) (o := exd d [(("code" : Str), V.str code)]) hd'
  have ha' : (W.put d (exd d [(("code" : Str), V.str code)])).h a = none := by
    show upd W.h d _ a = none
    rw [upd_ne (fun z => hda z.symm)]; exact ha
  have g2 := Grow.put (W := W.put d (exd d [(("code" : Str), V.str code)])) (o := exo a C (some d)) ha'
  have e : upd (upd (upd W.h a (exo a C none)) d (exd d [(("code" : Str), V.str code)])) a (exo a C (some d)) = ((W.put d (exd d [(("code" : Str), V.str code)])).put a (exo a C (some d))).h := by
    funext b
    show _ = upd (upd W.h d _) a _ b
    by_cases h1 : b = a
    · rw [h1, upd_same, upd_same]
    · rw [upd_ne h1, upd_ne h1]
      by_cases h2 : b = d
      · rw [h2, upd_same, upd_same]
      · rw [upd_ne h2, upd_ne h2, upd_ne h1]
  rw [e]
  refine q (.ref a) (.obj C) _ (g1.trans g2) (.obj (d := d) (fs := [(("code" : Str), V.str code)]) upd_same ?_) rfl
  show upd (upd W.b d _) a _ d = _
  rw [upd_ne hda, upd_same]
/-! ### isinstance of any value -/
def rIsiE (K : PySem.W.Frag) : List V → Hp → VK → Prop := fun xs H Q => rIsi K xs H Q ∨ ∃ (a C d : Addr) (fs : List (Str × V)) (T : String) (b : Bool), xs = [.ref a, .ty T] ∧ H a = some (exo a C (some d)) ∧ H d = some (exd d fs) ∧ Nr.ExCls K C ∧ PySem.W.kitOne K (.ref C) (.type T) = some b ∧ Q (.bl b) H
theorem call_isiE {X : Cx} : CallR X (.builtin "isinstance") (rIsiE X.K) := by
  intro pins s σ H xs us Q I r h
  rcases h with h | ⟨a, C, d, fs, T, b, rfl, ha, hd, c, e, q⟩
  · exact call_isi pins s σ H xs us Q I r h
  · obtain ⟨u1, u2, rfl, r1, r2⟩ := vals2 r
    cases (show u1 = Value.ref a from r1)
    cases (show u2 = Value.type T from r2)
    obtain ⟨t1, ho⟩ := exo_at I.hok ha
    obtain ⟨mA, ⟨od, es, ep, h1, h2⟩, _⟩ := exd_at I.hok hd
    have J : PySem.W.InstAt s.heap a ({ cls := .ref C, dict := some d, data := .fields #[.ref t1, .none, .none, .none, .bool false, .none] } : Obj) C (some od) := ⟨ho, rfl, rfl, h1⟩
    exact PySem.W.kia_one (PySem.W.kitx_exc c.cl c.ga c.gt c.ex c.cs c.sp c.tk c.ob) I.kIn J e (fun z => nomatch z) fun tk => ⟨.bl b, H, I.tok tk, rfl, q⟩
theorem call_isiE1 {X : Cx} (hK : X.K = K) : CallR X (.builtin "isinstance") (rIsiE K) := hK ▸ call_isiE
/-- a value that isinstance may be asked of -/
def ValK (K : PySem.W.Frag) : D → Prop
  | .bag | .scr _ _ | .ins _ _ => False
  | .obj C => Nr.ExCls K C
  | _ => True
def D.isT : D → String → Bool
  | .bl _, T => T == "bool" || T == "int"
  | .int _, T => T == "int"
  | .str _, T => T == "str"
  | .tup _, T => T == "tuple"
  | .lst _, T => T == "list"
  | .dic _, T => T == "dict"
  | _, _ => false
theorem kitB_is {d : D} {T : String} (nb : d.pl = true) (hT : T ∈ (["str", "int", "bool", "tuple", "list", "dict"] : List String)) : kitB d.ty T = some (d.isT T) := by
  simp only [List.mem_cons, List.not_mem_nil, or_false] at hT
  rcases hT with rfl | rfl | rfl | rfl | rfl | rfl <;> cases d <;> first | (simp only [D.ty, D.isT]; decide +kernel) | cases nb
theorem e_isA {d : D} {T : String} (h : ED te ρ (· = d)) (ok : ValK K d) (hT : T ∈ (["str", "int", "bool", "tuple", "list", "dict"] : List String)) : ED (tCB (rIsiE K) (tCons te (tCons (tC (.ty T)) tNil))) ρ (· = .bl (d.isT T)) := fun W0 W σ E Q q => h W0 W σ E _ fun v x W1 g1 r1 p1 => by
  subst p1
  by_cases nb : x.pl = true
  · exact .inl ⟨v, .ty T, .type x.ty, .type T, x.isT T, rfl, .ty T, ty_of nb W1.le r1, kit_ty (kitB_is nb hT), q _ _ W1 g1 (.bl _) rfl⟩
  · cases r1 with
    | obj ha hd => exact .inr ⟨_, _, _, _, T, false, rfl, W1.le _ _ ha, W1.le _ _ hd, ok, ok.no T hT, q _ _ W1 g1 (.bl _) rfl⟩
    | bag _ _ _ => exact ok.elim
    | scr _ => exact ok.elim
    | ins _ _ _ => exact ok.elim
    | _ => exact absurd rfl nb
/-! ### further rules -/
theorem e_gcd {i j : Int} (ha : ED ta ρ (· = .int i)) (hb : ED tb ρ (· = .int j)) : ED (tCB rGcd (tCons ta (tCons tb tNil))) ρ (· = .int ((Nat.gcd i.natAbs j.natAbs : Nat) : Int)) := fun W0 W σ E Q q =>
  ha W0 W σ E _ fun v x W1 g1 r1 p1 => hb W0 W1 σ (E.grow g1) _ fun w y W2 g2 r2 p2 => by
    subst p1 p2
    cases r1; cases r2
    exact ⟨i, j, rfl, q _ _ W2 (g1.trans g2) (.int _) rfl⟩
def rMax2 : List V → Hp → VK → Prop := fun xs H Q => ∃ i j : Int, xs = [.int i, .int j] ∧ Q (.int (if j > i then j else i)) H
theorem e_max2 {i j : Int} (ha : ED ta ρ (· = .int i)) (hb : ED tb ρ (· = .int j)) : ED (tCB rMax2 (tCons ta (tCons tb tNil))) ρ (· = .int (if j > i then j else i)) := fun W0 W σ E Q q =>
  ha W0 W σ E _ fun v x W1 g1 r1 p1 => hb W0 W1 σ (E.grow g1) _ fun w y W2 g2 r2 p2 => by
    subst p1 p2
    cases r1; cases r2
    exact ⟨i, j, rfl, q _ _ W2 (g1.trans g2) (.int _) rfl⟩
theorem e_dnew : EV tDNewK ρ (· = .dct []) := fun W0 W σ E Q q => fun p hp =>
  q (.ref p) (.dct []) (W.add p (.dK []) hp) (Grow.add hp) ⟨p, [], rfl, upd_same, W.le.none' hp, hp, .nil⟩ rfl
theorem EV.k1 {kd : List (Key × D)} (h : EV te ρ (· = .dct kd)) : ED te ρ (· = .dic kd) := h.ed fun e q => ⟨.dic kd, by rw [q]; rfl, rfl⟩
/-- a op1 b op2 c -/
theorem e_chain {r r' : R2} {x y z : D} {b c : Bool} (ha : ED ta ρ (· = x)) (hb : ED tb ρ (· = y)) (hc : ED tc ρ (· = z)) (h1 : OD r x y (· = .dat (.bl b))) (h2 : b = true → OD r' y z (· = .dat (.bl c))) : ED (tChain r r' ta tb tc) ρ (· = .bl (b && c)) := fun W0 W σ E Q q =>
  ha W0 W σ E _ fun v x' W1 g1 r1 p1 => hb W0 W1 σ (E.grow g1) _ fun w y' W2 g2 r2 p2 => by
    subst p1 p2
    refine h1 W2 v w (r1.mono g2.b) r2 _ fun u e W3 g3 r3 p3 => ?_
    subst p3
    have r3' : Rep W3.b (.bl b) u := r3
    cases r3'
    refine ⟨b, rfl, ?_⟩
    cases b with
    | false => exact iteF (q _ _ W3 ((g1.trans g2).trans g3) (.bl false) rfl)
    | true =>
      refine iteT (hc W0 W3 σ (E.grow ((g1.trans g2).trans g3)) _ fun u' z' W4 g4 r4 p4 => ?_)
      subst p4
      refine h2 rfl W4 w u' ((r2.mono g3.b).mono g4.b) r4 Q fun u e W5 g5 r5 p5 => ?_
      subst p5
      exact q u _ W5 ((((g1.trans g2).trans g3).trans g4).trans g5) r5 rfl
def rLeS : R2 := fun x y H Q => ∃ i j : Str, x = .str i ∧ y = .str j ∧ Q (.bl (!decide (j.cps.toList < i.cps.toList))) H
theorem od_leS {s t : List Nat} : OD rLeS (.str s) (.str t) (· = .dat (.bl (!decide (t < s)))) := fun W v w a b Q q => by
  cases a; cases b
  exact ⟨_, _, rfl, rfl, dat1 (.bl _) q⟩
theorem od_notB {a b : Bool} : OD rNotB (.bl a) (.bl b) (· = .dat (.bl (!decide (a = b)))) := fun W v w r r' Q q => by
  cases r; cases r'
  exact ⟨a, b, rfl, rfl, dat1 (.bl _) q⟩
end
section
variable {X : Cx}
theorem op_leS : OpR X (compareOp .LtE) rLeS := op_le_str
theorem call_max2K (hc : X.calm = true) : CallR X (.builtin "max") rMax2 := call_max2 hc
end
end Nt

namespace Nt
open PySem PySem.Spec PyProof.Rows L2
/-! ### sets of texts -/
abbrev tK (P : Program) (w : World) := PySem.strKind P w
def ky (e : Int × Value) : Str := match e.2 with | .str x _ => x | _ => Str.empty
def Gd (P : Program) (w : World) (e : Int × Value) : Prop := ∃ x tk, e.2 = Value.str x tk ∧ e.1 = (tK P w).hash x
/-- the set of the texts of L (each once) stands at a -/
def SetS (P : Program) (w : World) (h : Heap) (a : Addr) (L : List Str) : Prop := ∃ o es ep t, h.get? a = some o ∧ o.ExactSet ∧ o.data = .set es ep t ∧ (∀ e ∈ es.toList, Gd P w e) ∧ (es.toList.map ky).Perm L ∧ L.Nodup ∧ es.size < scanBound ∧ t.fits es.size = true ∧ Ris t.place.toList ∧ (w.params.followText "set-order" = true ∨ t.led = true)
section
variable {P : Program} {w : World} {h h' : Heap} {a : Addr} {L : List Str}
theorem SetS.at (R : SetS P w h a L) (k : ∀ o, h.get? a = some o → h'.get? a = some o) : SetS P w h' a L := by
  rcases R with ⟨o, es, ep, t, e0, more⟩
  exact ⟨o, es, ep, t, k o e0, more⟩
theorem gd_elems {l : List (Int × Value)} (g : ∀ e ∈ l, Gd P w e) : ElemsOf (tK P w) l := fun e he => by
  rcases g e he with ⟨x, tk, q1, q2⟩
  refine ⟨⟨x, ?_, q2⟩, ?_⟩
  · rw [q1]; exact strKind_is P w x tk
  · rw [q1]; rfl
theorem gd_is {e : Int × Value} (g : Gd P w e) (x : Str) : (tK P w).is x e.2 = true ↔ ky e = x := by
  rcases g with ⟨y, tk, q1, _⟩
  unfold ky
  rw [q1]
  show Value.isStrOf x (.str y tk) = true ↔ y = x
  simp only [Value.isStrOf, beq_iff_eq, decide_eq_true_eq]
  try exact eq_comm
theorem gd_mem {l : List (Int × Value)} (g : ∀ e ∈ l, Gd P w e) (x : Str) : x ∈ l.map ky ↔ ∃ e ∈ l, (tK P w).is x e.2 = true := by
  rw [List.mem_map]
  exact ⟨fun ⟨e, he, q⟩ => ⟨e, he, (gd_is (g e he) x).mpr q⟩, fun ⟨e, he, q⟩ => ⟨e, he, (gd_is (g e he) x).mp q⟩⟩
end
section
variable {P : Program} {w : World} {A : Around} {E : Value → Shared → Prop} {s : Shared} {a : Addr} {L : List Str}
theorem sets_tail {g : Bool → Sem Unit} (hg : ∀ (b : Bool) (s₁ : Shared) (Q' : Unit → Shared → Prop), Q' () s₁ → wpAny (model P w) A (g b) Q' E s₁) {o : Obj} {es : Array (Int × Value)} {ep : Nat} {t : SetTable} (ho : s.heap.get? a = some o) (hex : o.ExactSet) (hd : o.data = .set es ep t)
    {es1 : Array (Int × Value)} {t2 : SetTable} (g1 : ∀ e ∈ es1.toList, Gd P w e) (m1 : (es1.toList.map ky).Perm L) (nd : L.Nodup) (hb1 : es1.size < scanBound) (hf2 : t2.fits es1.size = true) (hr : Ris t2.place.toList) (hl : w.params.followText "set-order" = true ∨ t2.led = true) {wasDummy : Bool} {R : Option Bool → Shared → Prop}
    (hR : ∀ h', Heap.SameBut a s.heap h' → SetS P w h' a L → R (some true) { s with heap := h' }) :
    wpAny (model P w) A (do storeSet a es1 t2; if (!wasDummy && t2.tooFull) = true then (do g (relayAll t2 es1 (SetTable.grown es1.size)).2.2; storeSet a (relayAll t2 es1 (SetTable.grown es1.size)).1 (relayAll t2 es1 (SetTable.grown es1.size)).2.1; pure (some true)) else pure (some true)) R E s := by
  refine wpAny_bind (wpAny_storeSet_of ho hd ?_ (fits_of_scanBound hb1))
  have o1 := store_at (es' := es1) (t' := t2) ho hd
  have b1 := Heap.SameBut.update s.heap a (Obj.putSet es1 t2)
  by_cases hc : (!wasDummy && t2.tooFull) = true
  · rw [if_pos hc]
    have v1 := relayAll_perm t2 es1 (SetTable.grown es1.size)
    have v2 := relayAll_fits t2 es1 (SetTable.grown es1.size)
    have v3 := relayAll_ris t2 es1 (SetTable.grown es1.size)
    have v4 := relayAll_led t2 es1 (SetTable.grown es1.size)
    generalize relayAll t2 es1 (SetTable.grown es1.size) = Z at v1 v2 v3 v4 ⊢
    rcases Z with ⟨z1, z2, z3⟩
    dsimp only at v1 v2 v3 v4 ⊢
    have e1 : z1.size = es1.size := by rw [← Array.length_toList, v1.length_eq, Array.length_toList]
    have e2 : z1.size < scanBound := e1 ▸ hb1
    refine wpAny_bind (hg _ _ _ (wpAny_bind (wpAny_storeSet_of o1 rfl ?_ (fits_of_scanBound e2))))
    have o2 := store_at (es' := z1) (t' := z2) o1 rfl
    refine wpAny_pure (hR _ (b1.trans (Heap.SameBut.update _ a _)) ⟨_, z1, _, z2, o2, hex, rfl, fun e he => g1 e (v1.mem_iff.mp he), (v1.map ky).trans m1, nd, e2, v2, v3, ?_⟩)
    rcases hl with z | z
    · exact .inl z
    · exact .inr (by rw [v4]; exact z)
  · rw [if_neg hc]
    exact wpAny_pure (hR _ b1 ⟨_, es1, _, t2, o1, hex, rfl, g1, m1, nd, hb1, hf2, hr, hl⟩)
theorem sets_add {x : Str} {tk : Tok} {Q : Bool → Shared → Prop} (R : SetS P w s.heap a L) (room : L.length + 1 < scanBound)
    (hQ : ∀ h', Heap.SameBut a s.heap h' → SetS P w h' a (if x ∈ L then L else x :: L) → ∀ b, Q b { s with heap := h' }) :
    wpAny (model P w) A (setAddHashed a (.str x tk) ((tK P w).hash x)) Q E s := by
  rcases R with ⟨o, es, ep, t, ho, hex, hd, g, pm0, nd0, hb, hf, hr, hl⟩
  have hkey : (tK P w).is x (.str x tk) = true := strKind_is P w x tk
  have hsc : (Value.str x tk).scannable = true := rfl
  have hel := gd_elems g
  have hlen : es.size = L.length := by rw [← pm0.length_eq, List.length_map, Array.length_toList]
  unfold setAddHashed setAddHashedIn
  refine wpAny_holding (wpAny_bind (wpAny_setState_of ho hd hf ?_))
  dsimp only
  rw [byScan_of hsc hb hel]
  simp only [↓reduceIte]
  unfold setAddByScan
  refine wpAny_bind (wpAny_bind (wpAny_rule (wpAny_bind (wpAny_setScan_of hkey ho hd hf hel ?_))))
  cases hfi : List.findIdx? (fun e => (tK P w).is x e.2) es.toList with
  | some j =>
    dsimp only
    obtain ⟨hj, pj, _⟩ := List.findIdx?_eq_some_iff_getElem.mp hfi
    have hx : x ∈ L := pm0.mem_iff.mp ((gd_mem (P := P) (w := w) g x).mpr ⟨es.toList[j], List.getElem_mem hj, pj⟩)
    refine wpAny_pure (wpAny_pure (hQ s.heap (Heap.SameBut.refl a s.heap) ?_ _))
    rw [if_pos hx]
    exact ⟨o, es, ep, t, ho, hex, hd, g, pm0, nd0, hb, hf, hr, hl⟩
  | none =>
    dsimp only
    have hx : x ∉ L := fun z => by
      rcases (gd_mem (P := P) (w := w) g x).mp (pm0.mem_iff.mpr z) with ⟨e, he, q⟩
      have c := List.findIdx?_eq_none_iff.mp hfi e he
      rw [c] at q; exact Bool.noConfusion q
    rw [if_neg hx] at hQ
    have hgw : ∀ (b : Bool) {s₁ : Shared} {Q' : Unit → Shared → Prop}, Q' () s₁ → wpAny (model P w) A (match b with | true => rule "set.scan.the-table-gave-way" | false => pure ()) Q' E s₁ := fun b _ _ q => match b with
      | true => wpAny_rule q
      | false => wpAny_pure q
    have v1 := layNew_perm t es ((tK P w).hash x) (.str x tk)
    have v2 := layNew_fits t es ((tK P w).hash x) (.str x tk)
    have v3 := layNew_ris t es ((tK P w).hash x) (.str x tk) hr
    have v4 := layNew_led t es ((tK P w).hash x) (.str x tk)
    generalize layNew t es ((tK P w).hash x) (.str x tk) = Z at v1 v2 v3 v4 ⊢
    rcases Z with ⟨es1, t1, wasDummy, gave⟩
    dsimp only at v1 v2 v3 v4 ⊢
    rw [Array.toList_push] at v1
    have pc : es1.toList.Perm (((tK P w).hash x, Value.str x tk) :: es.toList) := v1.trans (List.perm_append_singleton _ _)
    have pk : (es1.toList.map ky).Perm (x :: L) := (pc.map ky).trans (pm0.cons x)
    have g1 : ∀ e ∈ es1.toList, Gd P w e := fun e he => by
      rcases List.mem_cons.mp (pc.mem_iff.mp he) with z | z
      · rw [z]; exact ⟨x, tk, rfl, rfl⟩
      · exact g e z
    have nd1 : (x :: L).Nodup := List.nodup_cons.mpr ⟨hx, nd0⟩
    have hb1 : es1.size < scanBound := by
      have : es1.size = L.length + 1 := by rw [← Array.length_toList, ← List.length_map (f := ky), pk.length_eq]; rfl
      rw [this]; exact room
    have hled : w.params.followText "set-order" = true ∨ t1.led = true := hl.imp id fun z => v4.trans z
    refine wpAny_bind (hgw _ ?_)
    split
    · refine wpAny_bind ?_
      rw [hashByValue_scannable 8 hsc]
      refine wpAny_pure (sets_tail (L := x :: L) ?_ ho hex hd g1 pk nd1 hb1 ?_ ?_ ?_ ?_)
      · intro b s₁ Q' q; cases b <;> first | exact wpAny_pure q | exact wpAny_rule q
      · first | (split <;> first | exact v2 | exact SetTable.fits_plain_off v2) | exact v2
      · first | (split <;> exact v3) | exact v3
      · first | (split <;> exact hled) | exact hled
      · exact fun h' sb r => by dsimp only; exact wpAny_pure (hQ h' sb r _)
    · refine wpAny_bind (wpAny_pure ?_)
      simp only [↓reduceIte]
      refine sets_tail (L := x :: L) ?_ ho hex hd g1 pk nd1 hb1 v2 v3 hled ?_
      · intro b s₁ Q' q; cases b <;> first | exact wpAny_pure q | exact wpAny_rule q
      · exact fun h' sb r => by dsimp only; exact wpAny_pure (hQ h' sb r _)
end
end Nt

set_option maxHeartbeats 6400000
namespace Nt
open PySem PySem.Spec PyProof.Rows L2
theorem setS_fresh {P : Program} {w : World} {h : Heap} {a : Addr} (ho : h.get? a = some { cls := .type "set", dict := none, data := .set #[] 0 (.fresh 0 0 (!w.params.followText "set-order")) }) : SetS P w h a [] := by
  refine ⟨_, #[], 0, _, ho, ⟨rfl, rfl, rfl⟩, rfl, fun e he => by simp at he, List.Perm.refl _, List.nodup_nil, by decide, by rfl, List.Pairwise.nil, ?_⟩
  show _ ∨ (!w.params.followText "set-order") = true
  cases w.params.followText "set-order"
  · exact .inr rfl
  · exact .inl rfl
section
variable {P : Program} {w : World} {A : Around} {E : Value → Shared → Prop} {s : Shared}
theorem sets_loop {I : Addr} {fp wr : List Addr} {G : Array GenState → Array GenState → Prop} {n : Nat} {Pv : Nat → Value → Prop} {St : Nat → Shared → Prop} {R : Result → Shared → Prop} (W : WalksS P w A.in1 I fp wr G n Pv St) (S : Addr) (hSf : S ∉ fp) (xs : List Str) (hn : n = xs.length)
    (hb : xs.length + 1 < scanBound) (hval : ∀ i v, Pv i v → ∃ k t, xs[i]? = some k ∧ v = .str k t) : ∀ (k i : Nat) (s : Shared), n - i = k → i ≤ n → St i s → (∃ L, SetS P w s.heap S L ∧ L.length ≤ i ∧ ∀ z, z ∈ L ↔ z ∈ xs.take i) →
      (∀ s' L, Moved (S :: wr) G s s' → SetS P w s'.heap S L → L.length ≤ n → (∀ z, z ∈ L ↔ z ∈ xs) → R (.ok (.ret .none)) s') → codeAny (model P w) A (.builtin "set.update.loop" ⟨[.ref S, .ref I], []⟩) R s := by
  have nw : S ∉ wr := fun z => hSf (W.sub _ z)
  have up : ∀ b ∈ wr, b ∈ S :: wr := fun b z => List.mem_cons_of_mem _ z
  intro k
  induction k with
  | zero =>
    rintro i s hk' hi hst ⟨L, hS, hc, hm0⟩ hR
    obtain rfl : i = n := by omega
    refine codeAny_builtin F.entry_set_update_loop ?_; rw [Around.under_plainId F.plain_set_update_loop _]
    show wpAny _ A.in1 (pyNext (.ref I) >>= _) _ _ s
    refine wpAny_bind (W.done s _ _ hst fun s' hm => ?_); show wpAny _ A.in1 (ret Value.none) _ _ s'
    rw [show xs.take i = xs from List.take_of_length_le (by omega)] at hm0
    exact wpAny_pure (hR s' L (hm.mono up) (hS.at fun o e => hm.heap S o nw e) hc hm0)
  | succ k ih =>
    rintro i s hk' hi hst ⟨L, hS, hc, hm0⟩ hR
    have hlt : i < n := by omega
    refine codeAny_builtin F.entry_set_update_loop ?_; rw [Around.under_plainId F.plain_set_update_loop _]
    show wpAny _ A.in1 (pyNext (.ref I) >>= _) _ _ s
    refine wpAny_bind (W.item i s _ _ hlt hst fun v s' hP hst' hm => ?_)
    rcases hval i v hP with ⟨z, t, hz, rfl⟩
    have hS' : SetS P w s'.heap S L := hS.at fun o e => hm.heap S o nw e
    show wpAny _ A.in1 (holding [Value.str z t] (setAdd S (.str z t)) >>= _) _ _ s'
    refine wpAny_bind (wpAny_holding ?_); unfold setAdd
    refine wpAny_holding (wpAny_bind ((PySem.strKind P w).pyHash (k := z) (strKind_is _ _ _ _) ?_))
    refine sets_add (s := { s' with toks := s'.toks + 1 }) hS' (by omega) fun h' hsb hS2 b => ?_
    have hc3 : (if z ∈ L then L else z :: L).length ≤ i + 1 := by
      split
      · omega
      · rw [List.length_cons]; omega
    have hm3 : ∀ y, y ∈ (if z ∈ L then L else z :: L) ↔ y ∈ xs.take (i + 1) := fun y => by
      rw [List.take_add_one, hz, List.mem_append, ← hm0 y, Option.toList_some, List.mem_singleton]
      split
      · exact ⟨.inl, fun q => q.elim id fun e => by rw [e]; assumption⟩
      · rw [List.mem_cons]; exact Or.comm
    refine wpAny_pure ⟨plainId_quiet F.plain_set_update_loop _, ih (i + 1) _ (by omega) hlt (W.frame _ s' _ _ hst' (Nat.le_succ _) fun b hb o e => ?_) ⟨_, hS2, hc3, hm3⟩ fun s'' L2 hm'' hS'' hc'' hm4 => ?_⟩
    · rw [hsb.2 b (fun q : b = S => hSf (q ▸ hb))]; exact e
    · refine hR s'' L2 (Moved.trans W.gtrans ((hm.mono up).then_heap (Nat.le_succ _) fun b o hb e => ?_) hm'') hS'' hc'' hm4
      rw [hsb.2 b (fun q : b = S => hb (q ▸ List.mem_cons_self))]; exact e

theorem call_set_listT {l : Addr} {items : Array Value} (xs : List Str) {Q : Value → Shared → Prop} (hh : A.handled = none) (hl : s.heap.IsList l items) (hit : StrsAre items.toList xs) (hb : xs.length + 1 < scanBound)
    (h : ∀ (h' : Heap) (tk : Nat) (L : List Str), SetS P w h' s.heap.objs.size L → L.length ≤ xs.length → (∀ z, z ∈ L ↔ z ∈ xs) → (∀ b o, s.heap.get? b = some o → h'.get? b = some o) → Q (.ref s.heap.objs.size) { s with heap := h', toks := tk }) : wpAny (model P w) A (call (.type "set") [.ref l]) Q E s := by
  have hisz : items.size = xs.length := by rw [← StrsAre.length hit, Array.length_toList]
  rcases F.called_set.mro with ⟨c, tl, hmro⟩
  have hmade := F.called_set.made; have hsub := F.called_set.sub
  refine wpAny_call (codeAny_of_tree ?_); show wpAny _ _ (callAny (.type "set") _) _ _ _
  refine wpAny_pure ⟨Code.quiet_builtin _ (by decide +kernel), codeAny_builtin F.entry_type_call ?_⟩; rw [Around.under_plain (weight_type_call_type "set" [.ref l] []) rfl]
  have h1 := F.called_set.notType; have h2 := F.called_set.canCreate; have hct := F.typeCall_set_1 (.ref l)
  repeat (any_goals (first | assumption | wp_step))
  let so : Obj := { cls := .type "set", dict := none, data := .set #[] 0 (.fresh 0 0 (!w.params.followText "set-order")) }
  refine codeAny_mono (code_set_led1 (.ref l) (E := E) (Q₁ := fun obj s₁ => obj = .ref s.heap.objs.size ∧ s₁ = { s with heap := s.heap.push so }) ⟨rfl, rfl⟩) fun r s₁ hr => ?_
  rcases r with e | fl
  · exact hr
  cases fl with
  | ret obj =>
    rcases hr with ⟨rfl, rfl⟩
    have hS : (s.heap.push so).get? s.heap.objs.size = some so := Heap.get?_push_size _ rfl
    have hT : Shared.TypeIs { s with heap := s.heap.push so } (.ref s.heap.objs.size) "set" := ⟨_, hS, rfl⟩
    have hli := F.called_set.init.lookup; have hbi := F.called_set.init.bind (.ref s.heap.objs.size)
    repeat (any_goals (first | assumption | wp_step))
    refine codeAny_mono (codeAny_call_builtin (R := wants (fun r s₂ => r = .none ∧ ∃ h' tk L, s₂ = { s with heap := h', toks := tk } ∧ SetS P w h' s.heap.objs.size L ∧ L.length ≤ xs.length ∧ (∀ z, z ∈ L ↔ z ∈ xs) ∧ (∀ b o, s.heap.get? b = some o → h'.get? b = some o)) E) F.called_set.init.plain F.entry_set_init (check_set_init_1 hT ?_)) fun r₂ s₂ hr₂ => ?_
    · rcases hl with ⟨⟨ocls, odict, odata, oslots⟩, hol, hcl, nl, hdl⟩
      simp only at hcl hdl
      subst hcl hdl
      have hol' : (s.heap.push so).get? l = some { cls := .type "list", dict := odict, data := .seq items nl, slots := oslots } := Heap.get?_push_of_some _ hol
      have hsls := F.sub_list_set; have hslf := F.sub_list_frozenset
      have hne : (Value.type "list" == Value.type "dict") = false := by decide
      have hl1 : (s.heap.push so).IsList l items := ⟨_, hol', rfl, nl, rfl⟩
      unfold Builtin.«set.__init__» noKeywords Builtin.Frozenset.updateFrom; generalize hPI : pyIter = PI; wp_walk; subst hPI
      refine wpAny_pyIter_list hl1 (wpAny_bind (wpAny_runValue ?_))
      have hlS : l < s.heap.objs.size := Heap.lt_size hol
      have hh3 : A.in1.in1.in1.handled = none := by simp [hh]
      have hz : (s.heap.push so).objs.size = s.heap.objs.size + 1 := Heap.size_push ..
      have hneI : l ≠ (s.heap.push so).objs.size := by rw [hz]; exact Nat.ne_of_lt (Nat.lt_succ_of_lt hlS)
      have hSf : s.heap.objs.size ∉ [(s.heap.push so).objs.size, l] := by
        rw [hz]; intro z
        rcases List.mem_cons.mp z with z | z
        · exact absurd z (Nat.ne_of_lt (Nat.lt_succ_self _))
        · exact absurd (List.mem_singleton.mp z) (Nat.ne_of_gt hlS)
      have hval : ∀ (i : Nat) (v : Value), items[i]? = some v → ∃ k t, xs[i]? = some k ∧ v = .str k t := fun i v hv => by
        rcases StrsAre.item hit i v (by rw [Array.getElem?_toList]; exact hv) with ⟨y, t, q1, q2⟩
        exact ⟨y, t, q2, q1⟩
      refine sets_loop ((Walks.list hh3 _ l hneI items).toS) s.heap.objs.size hSf xs hisz hb hval (items.size - 0) 0 _ (by omega) (Nat.zero_le _) ⟨⟨_, Heap.get?_push_size _ rfl, rfl, rfl⟩, (hl1.push _)⟩ ?hS0 ?hR
      case hS0 => exact ⟨[], setS_fresh (Heap.get?_push_of_some _ hS), Nat.le_refl 0, fun z => by simp⟩
      case hR =>
        rintro ⟨h', g2, d', tk', os'⟩ L' hm hS' hc' hmem
        have eg : g2 = s.gens := hm.gens; have ed : d' = s.drawn := hm.drawn; have eo : os' = s.os := hm.os
        subst eg ed eo
        show wpAny _ _ _ _ _ _
        refine wpAny_pure ?_; show wpAny _ _ (ret Value.none) _ _ _
        rw [hisz] at hc'
        refine wpAny_pure ⟨rfl, h', tk', L', rfl, hS', hc', hmem, fun b o e => hm.heap b o ?_ (Heap.get?_push_of_some _ (Heap.get?_push_of_some _ e))⟩
        have hb0 : b < s.heap.objs.size := Heap.lt_size e
        intro z
        rcases List.mem_cons.mp z with z | z
        · exact absurd z (Nat.ne_of_lt hb0)
        · have z := List.mem_singleton.mp z
          rw [hz] at z
          exact absurd z (Nat.ne_of_lt (Nat.lt_succ_of_lt hb0))
    · rcases r₂ with e | fl₂
      · exact hr₂
      cases fl₂ with
      | ret r =>
        rcases hr₂ with ⟨rfl, h', tk, L', rfl, hS', hc', hmem, hk'⟩
        repeat (any_goals (first | assumption | wp_step))
        exact h _ _ _ hS' hc' hmem hk'
      | _ => exact hr₂.elim
  | _ => exact hr.elim

theorem call_set_tupT {l : Addr} {items : Array Value} (xs : List Str) {Q : Value → Shared → Prop} (hh : A.handled = none) (hl : s.heap.IsTuple l items) (hit : StrsAre items.toList xs) (hb : xs.length + 1 < scanBound)
    (h : ∀ (h' : Heap) (tk : Nat) (L : List Str), SetS P w h' s.heap.objs.size L → L.length ≤ xs.length → (∀ z, z ∈ L ↔ z ∈ xs) → (∀ b o, s.heap.get? b = some o → h'.get? b = some o) → Q (.ref s.heap.objs.size) { s with heap := h', toks := tk }) : wpAny (model P w) A (call (.type "set") [.ref l]) Q E s := by
  have hisz : items.size = xs.length := by rw [← StrsAre.length hit, Array.length_toList]
  rcases F.called_set.mro with ⟨c, tl, hmro⟩
  have hmade := F.called_set.made; have hsub := F.called_set.sub
  refine wpAny_call (codeAny_of_tree ?_); show wpAny _ _ (callAny (.type "set") _) _ _ _
  refine wpAny_pure ⟨Code.quiet_builtin _ (by decide +kernel), codeAny_builtin F.entry_type_call ?_⟩; rw [Around.under_plain (weight_type_call_type "set" [.ref l] []) rfl]
  have h1 := F.called_set.notType; have h2 := F.called_set.canCreate; have hct := F.typeCall_set_1 (.ref l)
  repeat (any_goals (first | assumption | wp_step))
  let so : Obj := { cls := .type "set", dict := none, data := .set #[] 0 (.fresh 0 0 (!w.params.followText "set-order")) }
  refine codeAny_mono (code_set_led1 (.ref l) (E := E) (Q₁ := fun obj s₁ => obj = .ref s.heap.objs.size ∧ s₁ = { s with heap := s.heap.push so }) ⟨rfl, rfl⟩) fun r s₁ hr => ?_
  rcases r with e | fl
  · exact hr
  cases fl with
  | ret obj =>
    rcases hr with ⟨rfl, rfl⟩
    have hS : (s.heap.push so).get? s.heap.objs.size = some so := Heap.get?_push_size _ rfl
    have hT : Shared.TypeIs { s with heap := s.heap.push so } (.ref s.heap.objs.size) "set" := ⟨_, hS, rfl⟩
    have hli := F.called_set.init.lookup; have hbi := F.called_set.init.bind (.ref s.heap.objs.size)
    repeat (any_goals (first | assumption | wp_step))
    refine codeAny_mono (codeAny_call_builtin (R := wants (fun r s₂ => r = .none ∧ ∃ h' tk L, s₂ = { s with heap := h', toks := tk } ∧ SetS P w h' s.heap.objs.size L ∧ L.length ≤ xs.length ∧ (∀ z, z ∈ L ↔ z ∈ xs) ∧ (∀ b o, s.heap.get? b = some o → h'.get? b = some o)) E) F.called_set.init.plain F.entry_set_init (check_set_init_1 hT ?_)) fun r₂ s₂ hr₂ => ?_
    · rcases hl with ⟨⟨ocls, odict, odata, oslots⟩, hol, hcl, nl, hdl⟩
      simp only at hcl hdl
      subst hcl hdl
      have hol' : (s.heap.push so).get? l = some { cls := .type "tuple", dict := odict, data := .seq items nl, slots := oslots } := Heap.get?_push_of_some _ hol
      have hsls := F.sub_tuple_set; have hslf := F.sub_tuple_frozenset
      have hne : (Value.type "tuple" == Value.type "dict") = false := by decide
      have hl1 : (s.heap.push so).IsTuple l items := ⟨_, hol', rfl, nl, rfl⟩
      unfold Builtin.«set.__init__» noKeywords Builtin.Frozenset.updateFrom; generalize hPI : pyIter = PI; wp_walk; subst hPI
      refine wpAny_pyIter_tuple hl1 (wpAny_bind (wpAny_runValue ?_))
      have hlS : l < s.heap.objs.size := Heap.lt_size hol
      have hh3 : A.in1.in1.in1.handled = none := by simp [hh]
      have hz : (s.heap.push so).objs.size = s.heap.objs.size + 1 := Heap.size_push ..
      have hneI : l ≠ (s.heap.push so).objs.size := by rw [hz]; exact Nat.ne_of_lt (Nat.lt_succ_of_lt hlS)
      have hSf : s.heap.objs.size ∉ [(s.heap.push so).objs.size, l] := by
        rw [hz]; intro z
        rcases List.mem_cons.mp z with z | z
        · exact absurd z (Nat.ne_of_lt (Nat.lt_succ_self _))
        · exact absurd (List.mem_singleton.mp z) (Nat.ne_of_gt hlS)
      have hval : ∀ (i : Nat) (v : Value), items[i]? = some v → ∃ k t, xs[i]? = some k ∧ v = .str k t := fun i v hv => by
        rcases StrsAre.item hit i v (by rw [Array.getElem?_toList]; exact hv) with ⟨y, t, q1, q2⟩
        exact ⟨y, t, q2, q1⟩
      refine sets_loop ((Walks.tuple hh3 _ l hneI items).toS) s.heap.objs.size hSf xs hisz hb hval (items.size - 0) 0 _ (by omega) (Nat.zero_le _) ⟨⟨_, Heap.get?_push_size _ rfl, rfl, rfl⟩, (hl1.push _)⟩ ?hS0 ?hR
      case hS0 => exact ⟨[], setS_fresh (Heap.get?_push_of_some _ hS), Nat.le_refl 0, fun z => by simp⟩
      case hR =>
        rintro ⟨h', g2, d', tk', os'⟩ L' hm hS' hc' hmem
        have eg : g2 = s.gens := hm.gens; have ed : d' = s.drawn := hm.drawn; have eo : os' = s.os := hm.os
        subst eg ed eo
        show wpAny _ _ _ _ _ _
        refine wpAny_pure ?_; show wpAny _ _ (ret Value.none) _ _ _
        rw [hisz] at hc'
        refine wpAny_pure ⟨rfl, h', tk', L', rfl, hS', hc', hmem, fun b o e => hm.heap b o ?_ (Heap.get?_push_of_some _ (Heap.get?_push_of_some _ e))⟩
        have hb0 : b < s.heap.objs.size := Heap.lt_size e
        intro z
        rcases List.mem_cons.mp z with z | z
        · exact absurd z (Nat.ne_of_lt hb0)
        · have z := List.mem_singleton.mp z
          rw [hz] at z
          exact absurd z (Nat.ne_of_lt (Nat.lt_succ_of_lt hb0))
    · rcases r₂ with e | fl₂
      · exact hr₂
      cases fl₂ with
      | ret r =>
        rcases hr₂ with ⟨rfl, h', tk, L', rfl, hS', hc', hmem, hk'⟩
        repeat (any_goals (first | assumption | wp_step))
        exact h _ _ _ hS' hc' hmem hk'
      | _ => exact hr₂.elim
  | _ => exact hr.elim

end
end Nt

namespace Nt
open PySem PySem.Spec PyProof.Rows L2
/-! ### sorted(set of texts) -/
def kv (v : Value) : Str := match v with | .str x _ => x | _ => Str.empty
theorem strs_of : ∀ (l : List Value), (∀ v ∈ l, ∃ x tk, v = Value.str x tk) → StrsAre l (l.map kv)
  | [], _ => .nil
  | v :: l, h => by
    rcases h v List.mem_cons_self with ⟨x, tk, rfl⟩
    exact .cons x tk (strs_of l fun u hu => h u (List.mem_cons_of_mem _ hu))
section
variable {P : Program} {w : World} {A : Around} {E : Value → Shared → Prop} {s : Shared} {a : Addr}
theorem sorted_setS {L : List Str} {Q : Value → Shared → Prop} (R : SetS P w s.heap a L) (hh : A.handled = none)
    (hQ : ∀ s' p (out : Array Value) (c : Nat) (ys : List Str), (∀ b o, s.heap.get? b = some o → s'.heap.get? b = some o) → s'.gens = s.gens → s'.os = s.os → s.heap.objs.size ≤ p → s'.heap.get? p = some (seqObj "list" out c) → StrsAre out.toList ys → ys.Perm L → sortedS ys = true → Q (.ref p) s') :
    wpAny (model P w) A (call (.builtin "sorted") [.ref a]) Q E s := by
  rcases R with ⟨o, es, ep, t, ho, hex, hd, g, pm0, nd0, hb, hf, hr, hl⟩
  refine Calls.call_function_entry kind_sorted plain_sorted entry_sorted (args_sorted1 _) ?_
  unfold Builtin.«sorted»
  refine wpAny_bind (m := checkCount "sorted" 1 1 _) (wpAny_pure (wpAny_bind (collect_set (A := A.in1) hh ⟨o, ho, hex.1, hd⟩ hf hb hr hl fun s1 vs k1 hz g1 o1 pm => ?_)))
  have hvl : vs.length = es.size := by rw [pm.length_eq, List.length_map, Array.length_toList]
  have hI : StrsAre vs (vs.map kv) := strs_of vs fun v hv => by
    rcases List.mem_map.mp (pm.mem_iff.mp hv) with ⟨e, he, q⟩
    rcases g e he with ⟨x, tk, q1, _⟩
    exact ⟨x, tk, by rw [← q]; exact q1⟩
  have pk : (vs.map kv).Perm L := by
    have q := pm.map kv
    rw [List.map_map] at q
    exact q.trans pm0
  have hsl : vs.length ≤ sizeLine := by rw [hvl]; exact fits_of_scanBound hb
  refine wpAny_bind (wpAny_newList ?_ hsl)
  have hoL : (s1.heap.push (seqObj "list" vs.toArray 0)).get? s1.heap.objs.size = some (seqObj "list" vs.toArray 0) := Heap.get?_push_size _ rfl
  refine wpAny_bind (wpAny_holding (wpAny_call_entry slot_list_sort ⟨_, hoL, rfl⟩ entry_list_sort (list_sort_treeKAny strKind_oneLt hoL hI.keysOf (fun v₁ v₂ rest e => keyKind_strs (by rw [← e]; exact hI)) hsl fun st' hp hs => ⟨_, rfl, ?_⟩) (args_list_sort _)))
  rcases sorted_out_str hI hp hs with ⟨ys, y1, y2, y3⟩
  rcases sortedHeap_at (vs := vs) (out := (arrOf st').map (·.2)) hoL with ⟨c, hc⟩
  refine wpAny_pure ⟨_, rfl, hQ _ s1.heap.objs.size _ c ys (fun b u e => ?_) g1 o1 hz hc y1 (y2.trans pk) y3⟩
  have q := k1 b u e
  have hlt := Heap.lt_size q
  show (sortedHeap (s1.heap.push (seqObj "list" vs.toArray 0)) s1.heap.objs.size vs _).get? b = some u
  rw [sortedHeap_old (Nat.ne_of_lt hlt) (by rw [size_push']; exact Nat.lt_succ_of_lt hlt)]
  exact Heap.get?_push_of_some _ q
end
/-! ### sorted(set(xs)) in one -/
/-- xs a list or a tuple of texts: a new list with each once, sorted -/
def tSSet (K : PySem.W.Frag) (ta : TE) : TE := fun σ H Q => ta σ H fun x H1 => ∃ (l : Addr) (xs : List Str), x = .ref l ∧ (SqL K H1 l (xs.map V.str) ∨ SqT K H1 l (xs.map V.str)) ∧ xs.length ≤ 1000 ∧
  ∀ (ys : List Str) (p : Addr), (∀ z, z ∈ ys ↔ z ∈ xs) → ys.Nodup → sortedS ys = true → H1 p = none → Q (.ref p) (upd H1 p (.lst (ys.map V.str)))
section
variable {X : Cx} {e : Expr} {ta : TE}
theorem pe_sortedSet {p p2 q pos : Pos} (hc : X.calm = true) (hg : Gl X "sorted") (hm : X.mg "sorted" = none) (hg2 : Gl X "set") (hm2 : X.mg "set" = none) (ha : PE X e ta)
    (na : starEach [e] X.env = [(false, eval e X.env)] := by rfl) (nb : starEach [(.Call (.Name "set" p2) [e] [] q)] X.env = [(false, eval (.Call (.Name "set" p2) [e] [] q) X.env)] := by rfl) :
    PE X (.Call (.Name "sorted" p) [.Call (.Name "set" p2) [e] [] q] [] pos) (tSSet X.K ta) := by
  refine ⟨fun pins s σ H Q I h => ?_⟩
  refine Call_ (ld_blt I hg hm (show bootBuiltins "sorted" = some (.builtin "sorted") from by decide +kernel) ?_)
  refine PyProof.Rows.callWith_builtin1 (PyProof.Rows.args_cons ?_ nb) rfl rfl
  refine Call_ (ld_blt I hg2 hm2 boot_set ?_)
  refine PyProof.Rows.callWith_type1 (PyProof.Rows.args_cons (thn (ha.run pins s σ H _ I h) fun v s1 ⟨x, H1, I1, r1, q1⟩ => PyProof.Rows.args_nil ?_) na) na rfl
  rcases q1 with ⟨l, xs, rfl, hq, h1, q1⟩
  cases r1
  have fin : ∀ (its : List Value), Vals (xs.map V.str) its → ∀ (h' : Heap) (tk : Nat) (L : List Str), SetS X.prog X.w h' s1.heap.objs.size L → L.length ≤ xs.length → (∀ z, z ∈ L ↔ z ∈ xs) → (∀ b o, s1.heap.get? b = some o → h'.get? b = some o) →
      wpAny (model X.prog X.w) X.A (spliced (backTo pos (starEach [] X.env))) (fun vs s₂ => wpAny (model X.prog X.w) X.A (call (.builtin "sorted") (Value.ref s1.heap.objs.size :: vs)) (EP X pins σ Q) X.xe s₂) X.xe { s1 with heap := h', toks := tk } := fun its r h' tk L hS hle hmem hk => by
    refine PyProof.Rows.args_nil ?_
    have I2 : L2.Inv X pins σ H1 { s1 with heap := h', toks := tk } := I1.kept hk
    refine sorted_setS (s := { s1 with heap := h', toks := tk }) hS (I1.ok.hd hc) fun s' p out c ys k g o hp hg hout pm so => ?_
    have hn : H1 p = none := I2.hok.fresh hp
    have nd : L.Nodup := by
      rcases hS with ⟨_, _, _, _, _, _, _, _, _, nd, _⟩
      exact nd
    have hlen : (ys.map V.str).length ≤ sizeLine := by rw [List.length_map, pm.length_eq, sizeLine_eq]; omega
    have J := I2.call (ch := []) (g' := s'.gens) (t' := s'.toks) (d' := s'.drawn) (Un.laid k hp hn) (I2.hok.laid k hp (o := .lst (ys.map V.str)) ⟨hlen, out.toList, c, vals_of_strs hout, hg⟩) (by rw [g]; exact I2.bare) (fun _ z => nomatch z)
    have e : s' = { s1 with heap := s'.heap, gens := s'.gens, drawn := s'.drawn, toks := s'.toks } := by
      cases s'; cases o; rfl
    rw [e]
    exact ⟨.ref p, _, J, rfl, q1 ys p (fun z => pm.mem_iff.trans (hmem z)) (pm.nodup_iff.mpr nd) so hn⟩
  rcases hq with hq | hq
  · rcases I1.list hq with ⟨its, r, pl, hz⟩
    exact call_set_listT xs (I1.ok.hd hc) pl.isList (by simpa using r.strs) (by unfold scanBound; omega) fun h' tk L hS hle hmem hk => fin its r h' tk L hS hle hmem hk
  · rcases I1.tuple hq with ⟨its, r, pl, hz⟩
    exact call_set_tupT xs (I1.ok.hd hc) pl (by simpa using r.strs) (by unfold scanBound; omega) fun h' tk L hS hle hmem hk => fin its r h' tk L hS hle hmem hk
end
end Nt

namespace Nt
open PySem PySem.Spec PyProof.Rows L2 SrtO
/-! ### sorted of tuples (int, text) -/
def IsNS (h : Heap) (v : Value) (k : Int × Str) : Prop := ∃ a o t u n, v = .ref a ∧ h.get? a = some o ∧ o.cls = .type "tuple" ∧ o.data = .seq #[.int k.1 t, .str k.2 u] n
theorem IsNS.keeps {h h' : Heap} {v : Value} {k : Int × Str} (p : IsNS h v k) (q : ∀ b o, h.get? b = some o → o.cls = .type "tuple" → h'.get? b = some o) : IsNS h' v k := by
  rcases p with ⟨a, o, t, u, n, e, z1, z2, z3⟩
  exact ⟨a, o, t, u, n, e, q _ _ z1 z2, z2, z3⟩
def ltNS (p q : Int × Str) : Bool := if p.1 = q.1 then decide (p.2.cps.toList < q.2.cps.toList) else decide (p.1 < q.1)
theorem ltNS_iff {p q : Int × Str} : ltNS p q = true ↔ p.1 < q.1 ∨ (p.1 = q.1 ∧ p.2.cps.toList < q.2.cps.toList) := by
  unfold ltNS
  split
  · rename_i e
    rw [decide_eq_true_eq]
    exact ⟨fun z => .inr ⟨e, z⟩, fun z => z.elim (fun y => by omega) (·.2)⟩
  · rename_i e
    rw [decide_eq_true_eq]
    exact ⟨.inl, fun z => z.elim id fun y => absurd y.1 e⟩
theorem ltNS_no {p q : Int × Str} : ltNS p q = false ↔ ¬ (p.1 < q.1 ∨ (p.1 = q.1 ∧ p.2.cps.toList < q.2.cps.toList)) := by
  rw [← ltNS_iff]
  cases ltNS p q <;> simp
theorem lst_tr {a b c : List Nat} (h1 : ¬ b < a) (h2 : ¬ c < b) : ¬ c < a := by
  rw [List.not_lt] at h1 h2 ⊢
  exact List.le_trans h1 h2
theorem swo_NS : Swo ltNS := by
  refine ⟨fun x y h => ?_, fun x y z h1 h2 => ?_⟩
  · have a := ltNS_iff.mp h
    refine ltNS_no.mpr fun b => ?_
    rcases a with a | ⟨a1, a2⟩ <;> rcases b with b | ⟨b1, b2⟩
    · omega
    · omega
    · omega
    · exact List.lt_irrefl _ (List.lt_trans a2 b2)
  · have a := ltNS_no.mp h1
    have b := ltNS_no.mp h2
    refine ltNS_no.mpr fun c => ?_
    rcases c with c | ⟨c1, c2⟩
    · have a' : ¬ y.1 < x.1 := fun q => a (.inl q)
      have b' : ¬ z.1 < y.1 := fun q => b (.inl q)
      omega
    · have e1 : y.1 = x.1 := by
        have a' : ¬ y.1 < x.1 := fun q => a (.inl q)
        have b' : ¬ z.1 < y.1 := fun q => b (.inl q)
        omega
      exact lst_tr (fun q => a (.inr ⟨e1, q⟩)) (fun q => b (.inr ⟨by omega, q⟩)) c2
section
variable {prog : Program} {w : World} {A : Around} {E : Value → Shared → Prop} {s : Shared}
theorem ns_cmp {vs : List Value} {k : Value → Int × Str} (hp : ∀ v ∈ vs, IsNS s.heap v (k v)) : SrtO.Cmp prog w A s (tuples' true) (fun p => p.1 ∈ vs) (SrtO.lt2 fun v u => ltNS (k v) (k u)) := by
  intro p q hm hm'
  have h1 := hp _ hm
  have h2 := hp _ hm'
  show wpAny (model prog w) A (keyLt' (tuples' true) p.1 q.1) (fun r s' => s' = s ∧ r = ltNS (k p.1) (k q.1)) (fun _ _ => False) s
  unfold ltNS
  generalize k p.1 = K1 at h1 ⊢
  generalize k q.1 = K2 at h2 ⊢
  rcases K1 with ⟨x, y⟩
  rcases K2 with ⟨x', y'⟩
  rcases h1 with ⟨a, o, t, u, n, e, ho, hc, hd⟩
  rcases h2 with ⟨a', o', t', u', n', e', ho', hc', hd'⟩
  dsimp only at hd hd' ⊢
  rw [e, e']
  refine PySem.W.kat_lt ho hd ho' hd' ?_
  show PySem.W.KatLex prog w A true (decide (2 < 2)) _ [(.int x t, .int x' t'), (.str y u, .str y' u')] 0 s
  refine PySem.W.kat_cons (SeqAt.EqAt.int_int x t x' t' prog w _ _ (PySem.W.kat_go (fun e1 => ?_) (fun e1 => ?_)))
  · have ex : x = x' := by simpa using e1
    rw [if_pos ex]
    refine PySem.W.kat_yes (PySem.W.kat_cons (SeqAt.EqAt.str_str y u y' u' prog w _ _ (PySem.W.kat_go (fun e2 => ?_) (fun e2 => ?_))))
    · have ey : y = y' := by simpa using e2
      subst ey
      refine PySem.W.kat_yes (PySem.W.kat_nil ⟨rfl, ?_⟩)
      exact (decide_eq_false (List.lt_irrefl _)).symm
    · refine PySem.W.kat_no (PySem.W.kat_one _ _ (PyProof.Rows.lt_str ?_))
      exact ⟨rfl, rfl⟩
  · have ex : ¬ x = x' := by simpa using e1
    rw [if_neg ex]
    exact PySem.W.kat_no (oneLt_int ⟨rfl, rfl⟩)
theorem ns_firsts {h : Heap} {k : Value → Int × Str} : ∀ {vs : List Value}, (∀ v ∈ vs, IsNS h v (k v)) → ∃ fs : List Value, PySem.W.KatTups h vs fs ∧ fs.length = vs.length ∧ ∀ f ∈ fs, ∃ x t, f = Value.int x t
  | [], _ => ⟨[], PySem.W.KatTups.nil, rfl, fun _ z => nomatch z⟩
  | v :: vs, hp => by
    rcases ns_firsts (vs := vs) fun v' hm => hp v' (List.mem_cons_of_mem _ hm) with ⟨fs, q1, q2, q3⟩
    rcases hp v List.mem_cons_self with ⟨a, o, t, u, n, e, z1, z2, z3⟩
    generalize k v = kk at z3
    subst e
    refine ⟨.int kk.1 t :: fs, PySem.W.KatTups.cons z1 z2 z3 rfl q1, congrArg (· + 1) q2, fun f hm => ?_⟩
    rcases List.mem_cons.mp hm with z | z
    · exact ⟨_, _, z⟩
    · exact q3 f z
theorem ns_sortable {a : Addr} {vs : List Value} {k : Value → Int × Str} (h0 : 0 < vs.length) (hp : ∀ v ∈ vs, IsNS s.heap v (k v)) (ha : ∀ o, s.heap.get? a = some o → o.cls ≠ .type "tuple") : SrtO.SortableO prog w A s a vs fun v u => ltNS (k v) (k u) := by
  intro h' keep
  have hp' : ∀ v ∈ vs, IsNS h' v (k v) := fun v hm => (hp v hm).keeps fun b o e c => keep b o (fun z => ha o (z ▸ e) c) e
  rcases ns_firsts hp' with ⟨fs, q1, q2, q3⟩
  refine ⟨tuples' true, fun Q E hq => ?_, ns_cmp hp'⟩
  refine PySem.W.kat_kind (T := .type "int") q1 (by omega) (fun f hm => ?_) (by rfl) ?_
  · rcases q3 f hm with ⟨x, t, rfl⟩
    exact PySem.W.Looks.now
  · rw [show (Value.type "int" != Value.type "tuple") = true from by decide]
    exact hq
theorem sorted_NS {l : Addr} {vs : List Value} {k : Value → Int × Str} {Q : Value → Shared → Prop} (hl : s.heap.IsList l vs.toArray) (hz : vs.length ≤ sizeLine) (hp : ∀ v ∈ vs, IsNS s.heap v (k v))
    (h : ∀ (h' : Heap) (d : Addr) (out : List Value), SrtO.Srtd (fun v u => ltNS (k v) (k u)) out → out.Perm vs → (∀ b o, s.heap.get? b = some o → h'.get? b = some o) → s.heap.objs.size ≤ d → (∃ n, h'.get? d = some (seqObj "list" out.toArray n)) → Q (.ref d) { s with heap := h' }) :
    wpAny (model prog w) A (call (.builtin "sorted") [.ref l]) Q E s := by
  have O : Swo fun v u => ltNS (k v) (k u) := ⟨fun x y => swo_NS.asym (k x) (k y), fun x y z => swo_NS.tr (k x) (k y) (k z)⟩
  refine sorted_ord O hl hz (fun h2 h₁ a ha kk => ns_sortable (s := { s with heap := h₁ }) (by omega) (fun v hm => (hp v hm).keeps fun b o e _ => (kk b o e).2) fun o e => ?_) fun out hs hb => h _ _ out hs hb.perm (fun b o e => sortedAll_old e) (Nat.le_succ _) (sortedAll_at s.heap vs out.toArray)
  have e' := e.symm.trans ha
  cases e'
  exact fun c => absurd (Value.type.inj c) (by decide)
end
/-- sorted(xs), xs a list of tuples (int, text); k tells each one's -/
def rSortedNS (K : PySem.W.Frag) : List V → Hp → VK → Prop := fun vs H Q => ∃ (a : Addr) (xs : List V) (k : V → Int × Str), vs = [V.ref a] ∧ SqL K H a xs ∧ (∀ x ∈ xs, ∃ t, x = V.ref t ∧ H t = some (.tup [.int (k x).1, .str (k x).2])) ∧
  ∀ ys p, SrtO.Srtd (fun x y => ltNS (k x) (k y)) ys → ys.Perm xs → H p = none → Q (.ref p) (upd H p (.lst ys))
section
variable {X : Cx}
theorem cr_sortedNS : CallR X (.builtin "sorted") (rSortedNS X.K) := by
  intro pins s σ H vs us Q I r h
  rcases h with ⟨a, xs, k, rfl, hs, hx, q⟩
  rcases I.list hs with ⟨its, rv, hl, hz⟩
  rcases vals1 r with ⟨u, rfl, ru⟩
  obtain rfl : u = Value.ref a := ru
  rcases refs_back rv fun x m => (hx x m).imp fun t z => z.1 with ⟨e1, e2⟩
  refine sorted_NS (k := fun u => k (backV u)) hl.isList (by rw [← rv.length]; exact hz) (fun v hv => ?_) fun h' d out h1 h2 kp hd hn => ?_
  · rcases e2 v hv with ⟨t, rfl⟩
    have hm : V.ref t ∈ xs := by rw [e1]; exact List.mem_map.mpr ⟨_, hv, rfl⟩
    rcases hx _ hm with ⟨t', e, ht⟩
    cases e
    rcases I.hok _ _ ht with ⟨_, its2, r2, o, ho, hc, n, hd⟩
    rcases vals2 r2 with ⟨u1, u2, rfl, ri, rj⟩
    rcases ri with ⟨t1, rfl⟩
    rcases rj with ⟨t2, rfl⟩
    exact ⟨t, o, t1, t2, n, rfl, ho, hc, hd⟩
  · have h3 : ∀ u ∈ out, ∃ a, u = Value.ref a := fun u hu => e2 u (h2.mem_iff.mp hu)
    rcases hn with ⟨n, hn⟩
    have hb : (out.map backV).Perm xs := by rw [e1]; exact h2.map backV
    refine ⟨.ref d, upd H d (.lst (out.map backV)), I.laid (t' := s.toks) kp hd ⟨by rw [hb.length_eq]; exact hz, out, n, vals_back h3, hn⟩, rfl, q _ d (SrtO.srtd_map h1) hb (I.hok.fresh hd)⟩
end
end Nt

namespace Nt
open PySem PySem.Spec PyProof.Rows L2 SrtO
/-! ### sorted(xs, key=f), f a def that gives an int -/
section
variable {P : Program} {w : World} {A : Around} {E : Value → Shared → Prop} {s : Shared} {a kS : Addr} {vs : List Value} {R : PySem.Fin → Shared → Prop}
theorem key_tail {st : SortSt} {keys : Array Value} {e e1 : Nat} (ck : s.heap.get? kS = some (seqObj "list" keys e)) (ca : s.heap.get? a = some (seqObj "list" #[] e1)) (hka : kS ≠ a) (hz : (arrOf st).size ≤ 100000) (hk : keys.size ≤ 100000) (hfl : failedOf st = none)
    (h : ∀ h' c, (∀ b o, b ≠ kS → b ≠ a → s.heap.get? b = some o → h'.get? b = some o) → h'.get? a = some (seqObj "list" ((arrOf st).map (·.2)) c) → R (.done (.ret .none)) { s with heap := h' }) : wpAny (model P w) A (ksk_tail a false e1 (.ref kS) st) R E s := by
  have b1 := Heap.SameBut.update s.heap kS (Obj.mapSeq fun _ => (#[] : Array Value))
  have ca1 : (s.heap.update kS (Obj.mapSeq fun _ => (#[] : Array Value))).get? a = some (seqObj "list" #[] e1) := (b1.2 a hka.symm).trans ca
  have b2 := Heap.SameBut.update (s.heap.update kS (Obj.mapSeq fun _ => (#[] : Array Value))) a (Obj.mapSeq fun _ => (arrOf st).map (·.2))
  obtain ⟨c2, hc2⟩ : ∃ c2, ((s.heap.update kS (Obj.mapSeq fun _ => (#[] : Array Value))).update a (Obj.mapSeq fun _ => (arrOf st).map (·.2))).get? a = some (seqObj "list" ((arrOf st).map (·.2)) c2) := ⟨_, get?_update_seq ca1 fun _ => (arrOf st).map (·.2)⟩
  unfold ksk_tail
  try dsimp only
  refine wpAny_bind (listUpdate_at ck rfl ?_ (by rw [sizeLine_eq]; omega) (Nat.zero_le _))
  refine wpAny_bind (wpAny_letGo (wpAny_bind (seqEpoch_at ca1 rfl ?_)))
  refine wpAny_bind (listUpdate_at ca1 rfl ?_ (Nat.zero_le _) (by simp only [Bool.false_eq_true, if_false, Array.size_map]; rw [sizeLine_eq]; omega))
  rw [hfl]
  simp only [bne_self_eq_false, Bool.false_eq_true, if_false]
  exact wpAny_pure (h _ c2 (fun b o n1 n2 q => (b2.2 b n2).trans ((b1.2 b n1).trans q)) hc2)
/-- the pairs of keys and items, as they come out -/
def Outs (keys : List Value) (vs : List Value) (ps : List Keyed) : Prop := Srtd (lt2 ltIv) ps ∧ Stb (lt2 ltIv) ps (keys.zip vs)
theorem key_end {keys : Array Value} {kz : List Int} {e e1 : Nat} (ck : s.heap.get? kS = some (seqObj "list" keys e)) (ca : s.heap.get? a = some (seqObj "list" #[] e1)) (hka : kS ≠ a) (hI : IntsAre keys.toList kz) (hlen : kz.length = vs.length) (hz : vs.length ≤ 100000)
    (h : ∀ h' c ps, (∀ b o, b ≠ kS → b ≠ a → s.heap.get? b = some o → h'.get? b = some o) → h'.get? a = some (seqObj "list" ((ps : List Keyed).map (·.2)).toArray c) → Outs keys.toList vs ps → R (.done (.ret .none)) { s with heap := h' }) : wpAny (model P w) A (ksk_end a false vs.toArray e1 (.ref kS) keys) R E s := by
  have hks : keys.size = vs.length := by rw [← hlen, ← hI.length, Array.length_toList]
  have ezip : (keys.zip vs.toArray).toList = keys.toList.zip vs := ksk_zip keys vs
  have hzs : (keys.zip vs.toArray).size = vs.length := by rw [Array.size_zip, hks, List.size_toArray, Nat.min_self]
  have fin : ∀ st : SortSt, Srtd (lt2 ltIv) (arrOf st).toList → Stb (lt2 ltIv) (arrOf st).toList (keys.zip vs.toArray).toList → failedOf st = none → wpAny (model P w) A (ksk_tail a false e1 (.ref kS) st) R E s := fun st h1 h2 h3 => by
    refine key_tail ck ca hka ?_ (by rw [hks]; exact hz) h3 fun h' c k q => h h' c (arrOf st).toList k ?_ ⟨h1, ezip ▸ h2⟩
    · have hl := h2.len
      rw [Array.length_toList, Array.length_toList, hzs] at hl
      rw [hl]; exact hz
    · rw [q, ← Array.toList_map, Array.toArray_toList]
  unfold ksk_end
  try dsimp only
  rw [if_neg (show ¬ (false = true) by decide), if_neg (show ¬ (false = true) by decide)]
  by_cases h2 : vs.toArray.size < 2
  · rw [if_pos h2, if_pos h2]
    refine wpAny_bind (wpAny_pure ?_)
    rw [StateT.run_pure]
    refine wpAny_bind (wpAny_pure ?_)
    try dsimp only
    refine fin (SortSt.mk' general' (keys.zip vs.toArray) #[] 7 none) ?_ (Stb.refl _) rfl
    show Srtd (lt2 ltIv) (keys.zip vs.toArray).toList
    rw [List.size_toArray] at h2
    have hl : (keys.zip vs.toArray).toList.length < 2 := by rw [Array.length_toList, hzs]; exact h2
    match (keys.zip vs.toArray).toList, hl with
    | [], _ => exact List.Pairwise.nil
    | [v], _ => exact List.pairwise_singleton _ _
    | _ :: _ :: l, hl => exact absurd hl (by simp)
  · rw [if_neg h2, if_neg h2]
    rw [List.size_toArray] at h2
    rw [ksk_kind hI (by rw [hks]; omega)]
    refine wpAny_bind (wpAny_pure ?_)
    have hall : AllL (fun p : Keyed => p.1 ∈ keys.toList) (keys.zip vs.toArray).toList := fun p hm => by
      rw [ezip] at hm
      exact (List.of_mem_zip hm).1
    refine wpAny_bind (wpAny_mono (wpS_sortO (st0 := SortSt.mk' oneType' (keys.zip vs.toArray) #[] 7 none) (Q := fun _ st' => Srtd (lt2 ltIv) (arrOf st').toList ∧ Stb (lt2 ltIv) (arrOf st').toList (keys.zip vs.toArray).toList ∧ failedOf st' = none) (swo2 swo_int) (int_cmp hI) rfl hall rfl rfl fun st' a1 a2 a3 => ⟨a1, a2, a3⟩) ?_ fun _ _ e => e)
    rintro ⟨⟨⟩, st'⟩ s' ⟨rfl, q1, q2, q3⟩
    try dsimp only
    exact fin st' q1 q2 q3
end
end Nt

namespace Nt
open PySem PySem.Spec PyProof.Rows L2 SrtO
section
variable {X : Cx} {pins : List (Addr × Obj)} {σ : L2.St} {H : Hp} {A : Around} {E : Value → Shared → Prop}
/-- an untracked object of ours is tracked from now on -/
theorem inv_track {s : Shared} {a : Addr} {o : HO} (I : L2.Inv X pins σ H s) (ok : FpOk X pins H a) (new : ObjOk X.prog X.w (upd H a o) s.heap a o) : L2.Inv X pins σ (upd H a o) s := by
  have hn := ok.1
  have ne : ∀ b u, H b = some u → b ≠ a := fun b u e => ne_of_none e hn
  have hok : HOk X.prog X.w (upd H a o) s.heap := fun b u e => by
    by_cases hb : b = a
    · subst hb; rw [upd_same] at e; cases e; exact new
    · rw [upd_ne hb] at e
      exact (I.hok b u e).stay (fun c v _ q => q) (fun c q => by rw [upd_ne (ne_of_none q hn)]; exact q) fun c xs q => by rw [upd_ne (ne_of_none q hn)]; exact q
  refine I.call (g' := s.gens) (t' := s.toks) (d' := s.drawn) (ch := [a]) ⟨fun b u q _ _ _ => q, fun b u q _ _ _ => ⟨u.slots, q⟩, fun b u q n hx => ?_, fun b u q _ => ⟨u, q⟩, fun b xs q => ?_, fun b v u q => ?_, fun b ps q => ?_⟩ hok I.bare fun b hb => ?_
  · rw [upd_ne (fun z => hx (List.mem_singleton.mpr z))]; exact n
  · rw [upd_ne (ne b _ q)]; exact q
  · rw [upd_ne (ne b _ q)]; exact q
  · exact ⟨#[], by rw [upd_ne (ne b _ q), q]; simp⟩
  · rw [List.mem_singleton.mp hb]
    exact ⟨ok.2.2.2.1, ok.2.1, ok.2.2.2.2.1, ok.2.2.2.2.2⟩
def Turn (X : Cx) (pins : List (Addr × Obj)) (σ : L2.St) (H : Hp) (A : Around) (f v : Value) (k : Int) : Prop := ∀ (H' : Hp) (s' : Shared), Ex H H' → L2.Inv X pins σ H' s' →
  wpAny (model X.prog X.w) A (call f [v]) (fun r s'' => ∃ H'' t, r = .int k t ∧ Ex H' H'' ∧ L2.Inv X pins σ H'' s'' ∧ ∀ b o, s'.heap.get? b = some o → FpOk X pins H' b → b ∉ frs X.stack → s''.heap.get? b = some o ∧ H'' b = none) (fun _ _ => False) s'
theorem fp_none {H' : Hp} {b : Addr} (o : FpOk X pins H b) (n : H' b = none) : FpOk X pins H' b := ⟨n, o.2⟩
theorem key_rest {R : PySem.Fin → Shared → Prop} {f : Value} {a kS : Addr} {kz : List Int} {vs : List Value} {e1 : Nat} {s : Shared} (I : L2.Inv X pins σ H s) (ra : FpOk X pins H a) (rk : FpOk X pins H kS) (fa : a ∉ frs X.stack) (fk : kS ∉ frs X.stack) (hka : kS ≠ a)
    (ca : s.heap.get? a = some (seqObj "list" #[] e1)) (ck : s.heap.get? kS = some (seqObj "list" #[] 0)) (hlen : kz.length = vs.length) (hz : vs.length ≤ 1000) (turn : ∀ (i : Nat) v k, vs[i]? = some v → kz[i]? = some k → Turn X pins σ H A f v k)
    (h : ∀ H' s' c keys ps, Ex H H' → L2.Inv X pins σ H' s' → FpOk X pins H' a → s'.heap.get? a = some (seqObj "list" ((ps : List Keyed).map (·.2)).toArray c) → IntsAre keys kz → Outs keys vs ps → R (.done (.ret .none)) s') :
    wpAny (model X.prog X.w) A (ksk_rest a f false vs.toArray e1 (.ref kS)) R E s := by
  unfold ksk_rest
  refine wpAny_bind (wpAny_rule ?_)
  first
    | rw [List.forIn_toArray]
    | (rw [← Array.forIn_toList]; simp only [List.toList_toArray])
    | rw [← Array.forIn_toList]
  refine wpAny_bind (ksk_fold (fun i s' => ∃ H' kA e, Ex H H' ∧ L2.Inv X pins σ H' s' ∧ H' a = none ∧ H' kS = none ∧ s'.heap.get? a = some (seqObj "list" #[] e1) ∧ s'.heap.get? kS = some (seqObj "list" kA e) ∧ IntsAre kA.toList (kz.take i)) vs 0 s ⟨H, #[], 0, Ex.rfl', I, ra.1, rk.1, ca, ck, by simpa using IntsAre.nil⟩ ?step ?done)
  case step =>
    rintro j x s' hx ⟨H', kA, e, ex, I', na, nk, ca', ck', hk⟩
    simp only [Nat.zero_add] at hk ⊢
    have hj : j < vs.length := (List.getElem?_eq_some_iff.mp hx).1
    obtain ⟨k, hkj⟩ : ∃ k, kz[j]? = some k := ⟨_, List.getElem?_eq_getElem (by omega)⟩
    have hsz : kA.size ≤ vs.length := by
      have h1 := hk.length
      rw [Array.length_toList, List.length_take] at h1
      omega
    refine wpAny_bind (wpAny_attempt (wpAny_mono (turn j x k hx hkj H' s' ex I') (fun v s'' he => ?_) fun _ _ hF => hF.elim))
    rcases he with ⟨H2, t2, rfl, ex2, I2, kp⟩
    try dsimp only
    obtain ⟨ca2, na2⟩ := kp a _ ca' (fp_none ra na) fa
    obtain ⟨ck2, nk2⟩ := kp kS _ ck' (fp_none rk nk) fk
    have b1 := Heap.SameBut.update s''.heap kS (Obj.mapSeq (·.push (.int k t2)))
    obtain ⟨c2, hc2⟩ : ∃ c2, (s''.heap.update kS (Obj.mapSeq (·.push (.int k t2)))).get? kS = some (seqObj "list" (kA.push (.int k t2)) c2) := ⟨_, get?_update_seq ck2 (·.push (.int k t2))⟩
    have ek : kz.take (j + 1) = kz.take j ++ [k] := by rw [List.take_add_one, hkj]; simp
    have ea : (kA.push (Value.int k t2)).toList = kA.toList ++ [Value.int k t2] := by simp
    refine wpAny_bind (listUpdate_at ck2 rfl ?_ (by rw [sizeLine_eq]; omega) (Nat.le_trans (Nat.le_of_eq (Array.size_push ..)) (by rw [sizeLine_eq]; omega)))
    have I3 := I2.turnedL (t' := s''.toks) (ch := [kS]) (h' := s''.heap.update kS (Obj.mapSeq (·.push (.int k t2)))) (fun b o hb q => (b1.2 b (fun z => hb (List.mem_singleton.mpr z))).trans q) fun b hb => by rw [List.mem_singleton.mp hb]; exact fp_none rk nk2
    exact wpAny_pure ⟨rfl, H2, kA.push (.int k t2), c2, ex.tr ex2, I3, na2, nk2, (b1.2 a hka.symm).trans ca2, hc2, by rw [ea, ek]; exact ksk_snoc hk⟩
  case done =>
    rintro s' ⟨H', kA, e, ex, I', na, nk, ca', ck', hk⟩
    have hk' : IntsAre kA.toList kz := by
      have e3 : kz.take (0 + vs.length) = kz := List.take_of_length_le (by omega)
      rw [e3] at hk
      exact hk
    try dsimp only
    refine wpAny_bind (listItems_at ck' rfl ?_)
    refine key_end ck' ca' hka hk' hlen (by omega) fun h' c ps kp hc ho => ?_
    have I3 := I'.turnedL (t' := s'.toks) (ch := [kS, a]) (h' := h') (fun b o hb q => kp b o (fun z => hb (z ▸ List.mem_cons_self)) (fun z => hb (z ▸ List.mem_cons_of_mem _ List.mem_cons_self)) q) fun b hb => by
      rcases List.mem_cons.mp hb with z | z
      · rw [z]; exact fp_none rk nk
      · rw [List.mem_singleton.mp z]; exact fp_none ra na
    exact h H' _ c kA.toList ps ex I3 (fp_none ra na) hc hk' ho
theorem fr_new {s : Shared} {b : Addr} (I : L2.Inv X pins σ H s) (hb : s.heap.objs.size ≤ b) : b ∉ frs X.stack := fun hb' => by
  rcases List.mem_cons.mp (I.stkSub b hb') with e | e
  · exact absurd e (Nat.ne_of_gt (Nat.lt_of_lt_of_le I.lt hb))
  · exact I.nofs hb e
theorem key_tree {R : PySem.Fin → Shared → Prop} {f : Value} {a : Addr} {kz : List Int} {vs : List Value} {n : Nat} {s : Shared} (I : L2.Inv X pins σ H s) (ra : FpOk X pins H a) (fa : a ∉ frs X.stack) (ho : s.heap.get? a = some (seqObj "list" vs.toArray n)) (hlen : kz.length = vs.length) (hz : vs.length ≤ 1000)
    (turn : ∀ (i : Nat) v k, vs[i]? = some v → kz[i]? = some k → Turn X pins σ H A f v k)
    (h : ∀ H' s' c keys ps, Ex H H' → L2.Inv X pins σ H' s' → FpOk X pins H' a → s'.heap.get? a = some (seqObj "list" ((ps : List Keyed).map (·.2)).toArray c) → IntsAre keys kz → Outs keys vs ps → R (.done (.ret .none)) s') :
    wpAny (model X.prog X.w) A (ksk_tree a f false) R E s := by
  have hla : a < s.heap.objs.size := Heap.lt_size ho
  have b1 := Heap.SameBut.update s.heap a (Obj.mapSeq fun _ => (#[] : Array Value))
  obtain ⟨e1, ho1⟩ : ∃ e1, (s.heap.update a (Obj.mapSeq fun _ => (#[] : Array Value))).get? a = some (seqObj "list" #[] e1) := ⟨_, get?_update_seq ho fun _ => #[]⟩
  have hsz : ((s.heap.update a (Obj.mapSeq fun _ => (#[] : Array Value))).push (seqObj "tuple" vs.toArray 0)).objs.size = s.heap.objs.size + 1 := by rw [size_push', Heap.size_update]
  have I1 := I.turnedL (t' := s.toks) (ch := [a]) (h' := s.heap.update a (Obj.mapSeq fun _ => (#[] : Array Value))) (fun b o hb q => (b1.2 b (fun z => hb (List.mem_singleton.mpr z))).trans q) fun b hb => by rw [List.mem_singleton.mp hb]; exact ra
  have I2 := I1.kept (t' := s.toks) (h' := ((s.heap.update a (Obj.mapSeq fun _ => (#[] : Array Value))).push (seqObj "tuple" vs.toArray 0)).push (seqObj "list" #[] 0)) fun b o q => Heap.get?_push_of_some _ (Heap.get?_push_of_some _ q)
  have ge : s.heap.objs.size ≤ ((s.heap.update a (Obj.mapSeq fun _ => (#[] : Array Value))).push (seqObj "tuple" vs.toArray 0)).objs.size := by rw [hsz]; exact Nat.le_succ _
  unfold ksk_tree
  refine wpAny_bind (listItems_at ho rfl (wpAny_bind (listUpdate_at ho rfl ?_ (by rw [List.size_toArray, sizeLine_eq]; omega) (Nat.zero_le _))))
  refine wpAny_bind (seqEpoch_at ho1 rfl (wpAny_bind (wpAny_newTuple ?_ (by show vs.length ≤ _; rw [sizeLine_eq]; omega))))
  refine wpAny_bind (wpAny_newList ?_ (Nat.zero_le _))
  refine wpAny_holding ?_
  exact key_rest (s := { s with heap := ((s.heap.update a (Obj.mapSeq fun _ => (#[] : Array Value))).push (seqObj "tuple" vs.toArray 0)).push (seqObj "list" #[] 0) }) (kS := ((s.heap.update a (Obj.mapSeq fun _ => (#[] : Array Value))).push (seqObj "tuple" vs.toArray 0)).objs.size) I2 ra (I.fpOk ge (I.hok.fresh ge)) fa (fr_new I ge) (by rw [hsz]; exact Nat.ne_of_gt (Nat.lt_succ_of_lt hla)) (Heap.get?_push_of_some _ (Heap.get?_push_of_some _ ho1)) (Heap.get?_push_size _ rfl) hlen hz turn h
end
end Nt

namespace Nt
open PySem PySem.Spec PyProof.Rows L2 SrtO
abbrev lt3 (a b : Int × Str) : Bool := decide (a.1 < b.1)
theorem swo3 : Swo lt3 := by
  refine ⟨fun x y h => ?_, fun x y z h1 h2 => ?_⟩
  · have a := of_decide_eq_true h
    exact decide_eq_false (by omega)
  · have a := of_decide_eq_false h1
    have b := of_decide_eq_false h2
    exact decide_eq_false (by omega)
/-- xs, sorted by kf, as pairs (key, text) -/
def KeyOut (kf : Str → Int) (xs : List Str) (qs : List (Int × Str)) : Prop := Srtd lt3 qs ∧ Stb lt3 qs (xs.map fun x => (kf x, x))
def psi (p : Keyed) : Int × Str := (iv p.1, kv p.2)
theorem zip_psi {kf : Str → Int} : ∀ (xs : List Str) {keys vs : List Value}, IntsAre keys (xs.map kf) → StrsAre vs xs → (keys.zip vs).map psi = xs.map fun x => (kf x, x)
  | [], _, _, hk, hv => by
    cases hk; cases hv; rfl
  | x :: xs, _, _, hk, hv => by
    rw [List.map_cons] at hk
    cases hk with
    | cons n t r =>
      cases hv with
      | cons y u q => exact congrArg ((kf x, x) :: ·) (zip_psi xs r q)
theorem outs_key {kf : Str → Int} {keys vs : List Value} {xs : List Str} {ps : List Keyed} (hk : IntsAre keys (xs.map kf)) (hv : StrsAre vs xs) (h : Outs keys vs ps) : KeyOut kf xs (ps.map psi) := by
  refine ⟨srtd_map h.1, ?_⟩
  rw [← zip_psi xs hk hv]
  exact Stb.map swo3 psi h.2
theorem outs_vals {keys vs : List Value} {xs : List Str} {ps : List Keyed} (hv : StrsAre vs xs) (h : Outs keys vs ps) : Vals ((ps.map fun p => kv p.2).map V.str) (ps.map (·.2)) := by
  have hm : ∀ v ∈ ps.map (·.2), ∃ x tk, v = Value.str x tk := fun v hm => by
    obtain ⟨p, hp, rfl⟩ := List.mem_map.mp hm
    have hz := (List.of_mem_zip (show (p.1, p.2) ∈ keys.zip vs from h.2.perm.mem_iff.mp hp)).2
    exact hv.all _ hz
  have q := vals_of_strs (strs_of _ hm)
  have e : (ps.map (·.2)).map kv = ps.map fun p => kv p.2 := by rw [List.map_map]; rfl
  rw [e] at q
  exact q
section
variable {X : Cx} {pins : List (Addr × Obj)} {σ : L2.St} {H : Hp}
theorem turn_of {A : Around} {k : Nat} {g : Addr} {fd : FuncData} {pn : Str} {Rg : List D → (En → Prop) → Prop} (F : FnOk X.prog X.w X.K X.mg X.base CX0 k g fd [pn] (SpE Rg)) (hr : Room k A) (hA : A.frames = some X.stack) (hb : Binds X.K fd [pn] []) {z : Str} {t : Tok} {kx : Int}
    (hRg : ∀ P : En → Prop, P (.dat (.int kx)) → Rg [.str z.cps.toList] P) : Turn X pins σ H A (.ref g) (.str z t) kx := by
  intro H' s' ex I'
  have e0 := I'.env0
  have e1 : Env0 X.prog X.w X.K X.mg X.base A X.stack s' H' := ⟨hA, e0.mod, e0.bs, e0.bsz, e0.funs, e0.frf, e0.hok, e0.bare⟩
  have rv : RelV (tx z.cps.toList) (Value.str z t) := by rw [← tx_eq]; exact ⟨t, rfl⟩
  refine wpAny_call (codeAny_mono (F.run A X.stack s' H' ⟨[.str z t], []⟩ [.str z t] [tx z.cps.toList] (fun v H2 => v = .int kx ∧ Ex H' H2) (fun _ _ _ => False) hr e1 (hb s' [.str z t] I'.kIn rfl) (.cons rv .nil) ⟨⟨H', H', Ex.rfl'⟩, [.str z.cps.toList], fun e => e = .dat (.int kx), rfl, .cons (.str _) .nil, hRg _ rfl, fun v e W' g r p => by
    subst p
    cases r
    exact ⟨rfl, g.h⟩⟩) fun rr s2 hrr => ?_)
  cases rr with
  | error e => exact hrr
  | ok fl =>
    cases fl with
    | next => exact False.elim hrr
    | brk => exact False.elim hrr
    | cont => exact False.elim hrr
    | ret v =>
      obtain ⟨v', H2, os, bare, un, hok, rv', ev, ex2⟩ := (show CE X.stack X.prog X.w H' s' _ v s2 from hrr)
      subst ev
      obtain ⟨t2, rfl⟩ := rv'
      exact ⟨H2, t2, rfl, ex2, I'.call' os un hok bare (fun b y => absurd y List.not_mem_nil), fun b o hb fp fr => ⟨un.keep _ _ hb fp.1 fr List.not_mem_nil, un.free _ _ hb fp.1 List.not_mem_nil⟩⟩
theorem key_sorted {kf : Str → Int} {g l : Addr} {xs : List Str} {its : List Value} {s : Shared} {Q : VK} (I : L2.Inv X pins σ H s) (hl : s.heap.IsList l its.toArray) (hv : Vals (xs.map V.str) its) (hz : xs.length ≤ 1000)
    (turn : ∀ (i : Nat) v k, its[i]? = some v → (xs.map kf)[i]? = some k → Turn X pins σ H X.A.in1.in1 (.ref g) v k)
    (q : ∀ H' qs p, Ex H H' → KeyOut kf xs qs → H' p = none → Q (.ref p) (upd H' p (.lst (qs.map fun y => V.str y.2)))) :
    wpAny (model X.prog X.w) X.A (call (.builtin "sorted") [.ref l] [(Str.ofString "key", .ref g)]) (EP X pins σ Q) X.xe s := by
  have hs : StrsAre its xs := hv.strs
  have hlen : its.length = xs.length := hs.length
  refine call_function_entry_kw kind_sorted plain_sorted entry_sorted (ksk_s1 _ _) ?_
  unfold Builtin.«sorted»
  refine wpAny_bind (m := checkCount "sorted" 1 1 _) (wpAny_pure ?_)
  refine wpAny_bind (collect_list hl ?_ (by rw [sizeLine_eq]; omega))
  refine wpAny_bind (wpAny_newList ?_ (by rw [sizeLine_eq]; omega))
  have hsz : ((s.heap.push (seqObj "list" #[] 0)).update s.heap.objs.size (Obj.mapSeq (· ++ its.toArray))).objs.size = s.heap.objs.size + 1 := by rw [Heap.size_update, size_push']
  have hoL : (((s.heap.push (seqObj "list" #[] 0)).update s.heap.objs.size (Obj.mapSeq (· ++ its.toArray))).push (seqObj "list" its.toArray 0)).get? (s.heap.objs.size + 1) = some (seqObj "list" its.toArray 0) := by rw [← hsz]; exact Heap.get?_push_size _ rfl
  have keep : ∀ b o, s.heap.get? b = some o → (((s.heap.push (seqObj "list" #[] 0)).update s.heap.objs.size (Obj.mapSeq (· ++ its.toArray))).push (seqObj "list" its.toArray 0)).get? b = some o := fun b o e => by
    refine Heap.get?_push_of_some _ ?_
    rw [Heap.get?_update_ne _ _ _ _ (Nat.ne_of_lt (Heap.lt_size e))]
    exact Heap.get?_push_of_some _ e
  show wpAny _ _ _ _ _ { s with heap := ((s.heap.push (seqObj "list" #[] 0)).update s.heap.objs.size (Obj.mapSeq (· ++ its.toArray))).push (seqObj "list" its.toArray 0) }
  rw [hsz]
  refine wpAny_bind (wpAny_holding (wpAny_call_entry_kw slot_list_sort ⟨_, hoL, rfl⟩ entry_list_sort ?body (ksk_l1 _ _)))
  case body =>
    rw [ksk_t1]
    have I1 := I.kept (t' := s.toks) keep
    have ge : s.heap.objs.size ≤ s.heap.objs.size + 1 := Nat.le_succ _
    refine key_tree (s := { s with heap := ((s.heap.push (seqObj "list" #[] 0)).update s.heap.objs.size (Obj.mapSeq (· ++ its.toArray))).push (seqObj "list" its.toArray 0) }) (kz := xs.map kf) I1 (I.fpOk ge (I.hok.fresh ge)) (fr_new I ge) hoL (by rw [List.length_map, hlen]) (by omega) turn fun H' s' c keys ps ex I' fp hc hk ho => ⟨_, rfl, ?_⟩
    have hpl : ps.length = xs.length := by
      have h1 := ho.2.len
      rw [List.length_zip, hk.length, List.length_map, hlen, Nat.min_self] at h1
      exact h1
    have I2 := inv_track (o := .lst ((ps.map fun p => kv p.2).map V.str)) I' fp ⟨by rw [List.length_map, List.length_map, hpl, sizeLine_eq]; omega, ps.map (·.2), c, outs_vals hs ho, hc⟩
    refine wpAny_pure ⟨_, rfl, .ref _, _, I2, rfl, ?_⟩
    have e : ((ps.map fun p => kv p.2).map V.str) = (ps.map psi).map fun y => V.str y.2 := by rw [List.map_map, List.map_map]; rfl
    rw [e]
    exact q H' _ _ ex (outs_key hk hs ho) fp.1
end
end Nt

namespace Nt
open PySem PySem.Spec PyProof.Rows L2 SrtO
/-- sorted(xs, key=g): kf is what g gives -/
def rSKey (K : PySem.W.Frag) (g : Addr) (kf : Str → Int) (ok : Str → Prop) : List V → List V → Hp → VK → Prop := fun vs zs H Q => ∃ (l : Addr) (xs : List Str), vs = [.ref l] ∧ zs = [.ref g] ∧ SqL K H l (xs.map V.str) ∧ xs.length ≤ 1000 ∧ (∀ z ∈ xs, ok z) ∧
  ∀ H' qs p, Ex H H' → KeyOut kf xs qs → H' p = none → Q (.ref p) (upd H' p (.lst (qs.map fun y => V.str y.2)))
theorem cr_sKey {X : Cx} {K : PySem.W.Frag} {k : Nat} {g : Addr} {fd : FuncData} {pn : Str} {Rg : List D → (En → Prop) → Prop} {kf : Str → Int} {ok : Str → Prop} (hK : X.K = K) (F : FnOk X.prog X.w X.K X.mg X.base CX0 k g fd [pn] (SpE Rg)) (hr : Room (k + 2) X.A) (hb : Binds X.K fd [pn] [])
    (hRg : ∀ z, ok z → ∀ P : En → Prop, P (.dat (.int (kf z))) → Rg [.str z.cps.toList] P) : CallRK X (.builtin "sorted") [Str.ofString "key"] (rSKey K g kf ok) := by
  subst hK
  intro pins s σ H vs zs us ws Q I r rz h
  rcases h with ⟨l, xs, rfl, rfl, hs, hz, hok, q⟩
  obtain rfl := Vals.ref1 r
  obtain rfl := Vals.ref1 rz
  rcases I.list hs with ⟨its, rv, pl, _⟩
  refine key_sorted I pl.isList rv hz (fun i v kk hv hk => ?_) q
  rcases StrsAre.item rv.strs i v hv with ⟨y, t, rfl, hy⟩
  rw [List.getElem?_map, hy] at hk
  cases hk
  exact turn_of F (Room.in1 (Room.in1 hr)) I.env0.frames hb (hRg y (hok y (List.mem_of_getElem? hy)))
theorem reps_strs {H : Hp} : ∀ {xs : List (List Nat)} {ws : List V}, Reps H (xs.map D.str) ws → ws = (xs.map fun z => (⟨z.toArray⟩ : Str)).map V.str
  | [], _, .nil => rfl
  | x :: xs, _, .cons a b => by
    cases a
    rw [List.map_cons, List.map_cons, ← reps_strs b]; rfl
theorem strs_reps {H : Hp} : ∀ qs : List (Int × Str), Reps H (qs.map fun y => D.str y.2.cps.toList) (qs.map fun y => V.str y.2)
  | [] => .nil
  | y :: qs => .cons (rep_str y.2) (strs_reps qs)
/-- the same, read: a list of texts of ours, sorted -/
theorem e_skey {K : PySem.W.Frag} {ρ : List En} {te : TE} {g : Addr} {kf : Str → Int} {ok : Str → Prop} {R : En → Prop} (h : EV te ρ (fun e => ∃ xs : List (List Nat), e = .own (xs.map D.str) ∧ xs.length ≤ 1000 ∧ (∀ z ∈ xs, ok ⟨z.toArray⟩) ∧ ∀ qs, KeyOut kf (xs.map fun z => ⟨z.toArray⟩) qs → R (.own (qs.map fun y => .str y.2.cps.toList)))) :
    EV (tCKw (rSKey K g kf ok) (tCons te tNil) (tCons (tC (.ref g)) tNil)) ρ R := fun W0 W σ E Q q => h W0 W σ E _ fun v e W1 g1 r1 ⟨xs, e1, hl, hok, k⟩ => by
  subst e1
  obtain ⟨l, ws, rfl, h2, h3, h4, r2⟩ := r1
  have ew := reps_strs r2
  subst ew
  refine ⟨l, _, rfl, rfl, sq_l h2, by rw [List.length_map]; exact hl, fun z hz => ?_, fun H' qs p ex ho hp => ?_⟩
  · obtain ⟨y, hy, rfl⟩ := List.mem_map.mp hz
    exact hok y hy
  · have W2 : ∃ W2 : Wd, W2.h = H' ∧ Grow W1 W2 := ⟨⟨W1.b, H', W1.le.tr ex⟩, rfl, Ex.rfl', ex, fun _ z _ => z⟩
    obtain ⟨W2, rfl, g2⟩ := W2
    have rr := strs_reps (H := W2.b) qs
    obtain ⟨a, b⟩ := new_own (g1.trans g2) hp rr
    exact q (.ref p) _ _ a b (k qs ho)
end Nt

namespace Nt
open PySem PySem.Spec PyProof.Rows L2
/-! ### instances: made by an own __init__, then data -/
def putD (f : Str) (d : D) : List (Str × D) → List (Str × D)
  | [] => [(f, d)]
  | (g, x) :: r => if g = f then (g, d) :: r else (g, x) :: putD f d r
theorem RepF.put {H : Hp} {f : Str} {d : D} {v : V} (h : Rep H d v) : ∀ {fs vfs}, RepF H fs vfs → RepF H (putD f d fs) (putF f v vfs)
  | _, _, .nil => .cons h .nil
  | _, _, @RepF.cons _ g x y r vr a b => by
    unfold putD putF
    by_cases e : g = f
    · rw [if_pos e, if_pos e]; exact .cons h b
    · rw [if_neg e, if_neg e]; exact .cons a (RepF.put h b)
theorem RepF.len {H : Hp} : ∀ {fs vfs}, RepF H fs vfs → vfs.length = fs.length
  | _, _, .nil => rfl
  | _, _, .cons _ r => by rw [List.length_cons, List.length_cons, r.len]
theorem RepF.look {H : Hp} {f : Str} : ∀ {fs vfs}, RepF H fs vfs → ∀ {d : D}, fs.lookup f = some d → ∃ v, vfs.lookup f = some v ∧ Rep H d v
  | _, _, .nil, _, e => by cases e
  | _, _, @RepF.cons _ g x y r vr a b, d, e => by
    rw [List.lookup_cons] at e ⊢
    cases h : f == g with
    | true => rw [h] at e; cases e; exact ⟨_, rfl, a⟩
    | false => rw [h] at e; exact b.look e
theorem RepF.no {H : Hp} {f : Str} : ∀ {fs vfs}, RepF H fs vfs → fs.lookup f = none → vfs.lookup f = none
  | _, _, .nil, _ => rfl
  | _, _, @RepF.cons _ g x y r vr a b, e => by
    rw [List.lookup_cons] at e ⊢
    cases h : f == g with
    | true => rw [h] at e; cases e
    | false => rw [h] at e; exact b.no e
/-- what an __init__ promises: its instance has the fields fs at the end -/
def SpI (C : Addr) (Rg : List D → (List (Str × D) → Prop) → Prop) : Sp := fun vs H Q _ => ∃ (W : Wd) (x dx : Addr) (ws : List V) (ds : List D) (P : List (Str × D) → Prop), vs = .ref x :: ws ∧ W.h x = none ∧ W.h dx = none ∧ dx ≠ x ∧ H = upd (upd W.h dx (.own x)) x (.ins C dx []) ∧ Reps W.b ds ws ∧ Rg ds P ∧
  ∀ fs W', Grow W W' → RepV W W' (.inst x C fs) (.ref x) → P fs → Q .non W'.h
theorem spI_len {C : Addr} {Rg : List D → (List (Str × D) → Prop) → Prop} {n : Nat} {vs : List V} {H : Hp} {Q : VK} {E : XK} (h : SpI C Rg vs H Q E) (hl : ∀ ds P, Rg ds P → ds.length = n) : vs.length = n + 1 := by
  obtain ⟨W, x, dx, ws, ds, P, rfl, _, _, _, _, r, hr, _⟩ := h
  rw [List.length_cons, r.len, hl ds P hr]
/-- the world with a new instance -/
def Wd.addI (W : Wd) (x dx C : Addr) (hx : W.h x = none) (hd : W.h dx = none) (hne : dx ≠ x) : Wd := ⟨W.b, upd (upd W.h dx (.own x)) x (.ins C dx []), (W.le.tr (Ex.nw hd)).tr (Ex.nw (by rw [upd_ne (Ne.symm hne)]; exact hx))⟩
theorem Grow.addI {W : Wd} {x dx C : Addr} (hx : W.h x = none) (hd : W.h dx = none) (hne : dx ≠ x) : Grow W (W.addI x dx C hx hd hne) :=
  ⟨Ex.rfl', (Ex.nw hd).tr (Ex.nw (by rw [upd_ne (Ne.symm hne)]; exact hx)), fun _ h1 _ => h1⟩
theorem fn_bodyI {C : Addr} {Rg : List D → (List (Str × D) → Prop) → Prop} {N : List Str} {vs : List V} {H : Hp} {Q : VK} {X : XK} {t : TS} (h : SpI C Rg vs H Q X) (hn : vs.length ≤ N.length)
    (k : ∀ x ds P, Rg ds P → ds.length + 1 = vs.length → TT' t (.inst x C [] :: (ds.map En.dat ++ List.replicate (N.length - (ds.length + 1)) .un)) { N := fun ρ' => ∃ fs, ρ'[0]? = some (.inst x C fs) ∧ P fs, R := fun _ => False }) : t { nx := fun _ H' => Q .non H', rt := Q } (start N vs) H := by
  obtain ⟨W, x, dx, ws, ds, P, rfl, hx, hdx, hne, rfl, r, hr, q⟩ := h
  have hl := r.len
  have hln : (V.ref x :: ws).length = ws.length + 1 := rfl
  refine k x ds P hr (by rw [hln, hl]) W (W.addI x dx C hx hdx hne) (start N (.ref x :: ws)) ⟨Grow.addI hx hdx hne, ?_, fun i e hi hne' => ?_, fun i j e1 e2 l h1 h2 t1 t2 _ _ => ?_⟩ _ (fun σ' W' ρ' E' _ ⟨fs, e0, pf⟩ => ?_) (fun v e W' g r z => z.elim) (fun _ _ _ _ _ z => z.elim) (fun _ _ _ _ _ z => z.elim)
  · simp [L2.start]; rw [hln] at hn; omega
  · cases i with
    | zero =>
      cases hi
      refine ⟨.ref x, by simp [L2.start], dx, [], rfl, upd_same, ?_, W.le.none' hx, W.le.none' hdx, hx, hdx, .nil⟩
      show upd (upd W.h dx (.own x)) x (.ins C dx []) dx = _
      rw [upd_ne hne, upd_same]
    | succ i =>
      rw [List.getElem?_cons_succ] at hi
      rcases Nat.lt_or_ge i ds.length with hlt | hge
      · rw [List.getElem?_append_left (by simpa using hlt), List.getElem?_map] at hi
        have hd : ds[i]? = some ds[i] := List.getElem?_eq_getElem hlt
        rw [hd] at hi
        cases hi
        obtain ⟨v, hv, rv⟩ := r.get hd
        refine ⟨v, ?_, rv⟩
        unfold L2.start
        rw [List.getElem?_append_left (by simp; omega), List.getElem?_map, List.getElem?_cons_succ, hv]
        rfl
      · rw [List.getElem?_append_right (by simpa using hge), List.getElem?_replicate] at hi
        split at hi
        · cases hi; exact absurd rfl hne'
        · cases hi
  · have key : ∀ (m : Nat) (f : En), (En.inst x C [] :: (ds.map En.dat ++ List.replicate (N.length - (ds.length + 1)) En.un))[m]? = some f → f.adr = true → m = 0 := fun m f hm t => by
      cases m with
      | zero => rfl
      | succ m =>
        rw [List.getElem?_cons_succ] at hm
        have hmem := List.mem_of_getElem? hm
        rcases List.mem_append.mp hmem with z | z
        · obtain ⟨d, _, rfl⟩ := List.mem_map.mp z
          cases t
        · rw [List.eq_of_mem_replicate z] at t; cases t
    rw [key i e1 h1 t1, key j e2 h2 t2]
  · obtain ⟨v, _, rv⟩ := E'.ent 0 _ e0 (fun z => nomatch z)
    have ev : v = .ref x := rv.choose_spec.choose_spec.1
    subst ev
    exact q fs W' E'.g rv pf
section
variable {K : PySem.W.Frag} {ta tb te : TE} {tt tu : TT} {ar : TA} {ρ : List En} {p : Ps} {P : En → Prop} {PD : D → Prop}
/-- C(..) -/
theorem e_make {C : Addr} {Rg : List D → (List (Str × D) → Prop) → Prop} {dvs : List V} {cs ds : List D} {E1 : XK} {PF : List (Str × D) → Prop} (h : EA ar ρ (· = ds)) (hc : Reps (fun _ => none) cs dvs) (hr : Rg (ds ++ cs) PF) : EV (tMake C (SpI C Rg) dvs E1 ar) ρ (fun e => ∃ x fs, e = .inst x C fs ∧ PF fs) := fun W0 W σ E Q q =>
  h W0 W σ E _ fun vs ds' W1 g1 r1 p1 => by
    subst p1
    intro x dx hx hdx hne
    exact ⟨W1, x, dx, vs ++ dvs, ds' ++ cs, PF, rfl, hx, hdx, hne, rfl, r1.app (hc.mono fun a o z => by cases z), hr, fun fs W' g rv pf => ⟨rfl, q (.ref x) (.inst x C fs) W' (g1.trans g) (rv.back g1.h) ⟨x, fs, rfl, pf⟩⟩⟩
theorem e_makeD {C : Addr} {Rg : List D → (List (Str × D) → Prop) → Prop} {dvs : List V} {cs ds : List D} {E1 : XK} {fs : List (Str × D)} (h : EA ar ρ (· = ds)) (hc : Reps (fun _ => none) cs dvs) (hr : Rg (ds ++ cs) (· = fs)) : ED (tMake C (SpI C Rg) dvs E1 ar) ρ (· = .ins C fs) :=
  (e_make (PF := (· = fs)) h hc hr).ed fun e ⟨x, gs, e1, e2⟩ => ⟨.ins C fs, by rw [e1, e2]; rfl, rfl⟩
/-- o.f -/
theorem e_fld {C : Addr} {fs : List (Str × D)} {f : Str} {d : D} (h : ED ta ρ (· = .ins C fs)) (c : Cls K C) (n : NoAttr K C f) (l : fs.lookup f = some d) : ED (tFld K ta f) ρ (· = d) := fun W0 W σ E Q q =>
  h W0 W σ E _ fun v x W1 g1 r1 p1 => by
    subst p1
    cases r1 with
    | ins ha hd rf =>
      obtain ⟨u, lu, ru⟩ := rf.look l
      exact ⟨_, C, _, _, u, rfl, W1.le _ _ ha, c, n, lu, q u d W1 g1 ru rfl⟩
/-- o.m(..) -/
theorem e_meth {C : Addr} {m : Str} {Rg : List D → (En → Prop) → Prop} {dvs : List V} {cs ds : List D} {E1 : XK} {fs : List (Str × D)} {R : En → Prop} (h : ED ta ρ (· = .ins C fs)) (nm : fs.lookup m = none) (ha : EA ar ρ (· = ds)) (hc : Reps (fun _ => none) cs dvs) (hr : Rg (.ins C fs :: (ds ++ cs)) R) : EV (tMeth C m (SpE Rg) dvs E1 ta ar) ρ R := fun W0 W σ E Q q =>
  h W0 W σ E _ fun v x W1 g1 r1 p1 => by
    subst p1
    have r1' := r1
    cases r1 with
    | ins h1 h2 rf =>
      refine ⟨_, _, _, rfl, W1.le _ _ h1, rf.no nm, ha W0 W1 σ (E.grow g1) _ fun vs ds' W2 g2 r2 p2 => ?_⟩
      subst p2
      exact ⟨W2, .ins C fs :: (ds' ++ cs), R, rfl, .cons (r1'.mono g2.b) (r2.app (hc.mono fun a o z => by cases z)), hr, fun v e W' g r z => q v e W' ((g1.trans g2).trans g) (r.back (g1.trans g2).h) z⟩
/-- self.f = e -/
theorem t_fld {i : Nat} {x C : Addr} {fs : List (Str × D)} {f : Str} (h : ρ[i]? = some (.inst x C fs)) (c : Cls K C) (n : NoAttr K C f) (hl : fs.length < 1000) (he : ED te ρ PD) (k : ∀ d, PD d → p.N (ρ.set i (.inst x C (putD f d fs)))) : TT' (sFld K (tVar i) te f) ρ p := fun W0 W σ E Dd nx _ _ _ => by
  refine he W0 W σ E _ fun v d W1 g1 r1 pd => ?_
  obtain ⟨dx, vfs, hv, h1, rf, mk⟩ := (E.grow g1).mutI (fs' := putD f d fs) h
  obtain ⟨W2, e1, e2, E2⟩ := mk (putF f v vfs) (rf.put r1)
  refine ⟨.ref x, hv, x, C, dx, vfs, rfl, h1, c, n, by rw [rf.len]; exact hl, ?_⟩
  rw [← e2]
  exact nx _ W2 _ E2 (by rw [e1]; exact g1.b) (k d pd)
end
end Nt

namespace Nt
open PySem PySem.Spec PyProof.Rows L2
/-! ### len(o), e in o by own methods -/
/-- e in o, by o's class C -/
def rInI (C : Addr) (sp : Sp) (neg : Bool) : R2 := fun x y H Q => ∃ a dx fs, y = .ref a ∧ H a = some (.ins C dx fs) ∧ sp [.ref a, x] H (fun v H' => ∃ b : Bool, v = .bl b ∧ Q (.bl (if neg then !b else b)) H') fun _ _ _ => False
/-- len(o) -/
def rLenI (C : Addr) (sp : Sp) : List V → Hp → VK → Prop := fun xs H Q => ∃ a dx fs, xs = [.ref a] ∧ H a = some (.ins C dx fs) ∧ sp [.ref a] H (fun v H' => ∃ n : Nat, v = .int n ∧ n < 2 ^ 62 ∧ Q (.int n) H') fun _ _ _ => False
section
variable {X : Cx} {CX : CXT} {C g : Addr} {fd : FuncData} {ps : List Str} {sp : Sp} {k : Nat}
theorem run_in {pins : List (Addr × Obj)} {σ : L2.St} {H : Hp} {s : Shared} {a dx : Addr} {fs : List (Str × V)} {x : V} {v : Value} {QB : Bool → Hp → Prop} (hs : PySem.W.findIn X.K (.ref C) "__contains__" = some (some (.ref g))) (hf : PySem.W.isFn X.K (.ref g) = true)
    (F : FnOk X.prog X.w X.K X.mg X.base CX k g fd ps sp) (hr : Room k X.A) (hb : Binds X.K fd ps []) (hx : Passes CX X fun _ _ _ => False) (I : Inv X pins σ H s) (ha : H a = some (.ins C dx fs)) (rx : RelV x v)
    (h : sp [.ref a, x] H (fun v H' => ∃ b : Bool, v = .bl b ∧ QB b H') fun _ _ _ => False) : wpAny (model X.prog X.w) X.A (contains (.ref a) v) (fun b s' => ∃ H', Inv X pins σ H' s' ∧ QB b H') X.xe s := by
  obtain ⟨mA, J, _⟩ := ins_get I.hok ha
  obtain ⟨od, J, _⟩ := J.look
  obtain ⟨m, hF⟩ := I.fr
  refine PySem.W.contains_K hF I.ok.mod.kin J hs hf ?_
  have r2 : Vals [V.ref a, x] [Value.ref a, v] := .cons rfl (.cons rx .nil)
  refine wpAny_mono (run_fn (dvs := []) (ds := []) F hr hb .nil hx I r2 h) (fun r s' hq => ?_) fun _ _ z => z
  obtain ⟨v', H', I', rv, b, ev, q⟩ := hq
  subst ev
  obtain rfl : r = Value.bool b := rv
  exact wpAny_truthy_bool ⟨H', I', q⟩
theorem op_inI (hs : PySem.W.findIn X.K (.ref C) "__contains__" = some (some (.ref g))) (hf : PySem.W.isFn X.K (.ref g) = true) (F : FnOk X.prog X.w X.K X.mg X.base CX k g fd ps sp) (hr : Room k X.A) (hb : Binds X.K fd ps []) (hx : Passes CX X fun _ _ _ => False) : OpR X (compareOp .In) (rInI C sp false) := fun pins s σ H x y v u Q I r1 r2 ⟨a, dx, fs, ey, ha, h⟩ => by
  subst ey
  obtain rfl : u = Value.ref a := r2
  exact wpAny_bind (wpAny_mono (run_in (QB := fun b H' => Q (.bl (if false = true then !b else b)) H') hs hf F hr hb hx I ha r1 h) (fun b s' ⟨H', I', q⟩ => wpAny_pure ⟨.bl b, H', I', rfl, q⟩) fun _ _ z => z)
theorem op_notInI (hs : PySem.W.findIn X.K (.ref C) "__contains__" = some (some (.ref g))) (hf : PySem.W.isFn X.K (.ref g) = true) (F : FnOk X.prog X.w X.K X.mg X.base CX k g fd ps sp) (hr : Room k X.A) (hb : Binds X.K fd ps []) (hx : Passes CX X fun _ _ _ => False) : OpR X (compareOp .NotIn) (rInI C sp true) := fun pins s σ H x y v u Q I r1 r2 ⟨a, dx, fs, ey, ha, h⟩ => by
  subst ey
  obtain rfl : u = Value.ref a := r2
  exact wpAny_bind (wpAny_mono (run_in (QB := fun b H' => Q (.bl (if true = true then !b else b)) H') hs hf F hr hb hx I ha r1 h) (fun b s' ⟨H', I', q⟩ => wpAny_pure ⟨.bl (!b), H', I', rfl, q⟩) fun _ _ z => z)
theorem call_lenI (hs : PySem.W.findIn X.K (.ref C) "__len__" = some (some (.ref g))) (hf : PySem.W.isFn X.K (.ref g) = true) (F : FnOk X.prog X.w X.K X.mg X.base CX k g fd ps sp) (hr : Room (k + 1) X.A) (hb : Binds X.K fd ps []) (hx : Passes CX X fun _ _ _ => False) : CallR X (.builtin "len") (rLenI C sp) := fun pins s σ H xs us Q I r ⟨a, dx, fs, ex, ha, h⟩ => by
  subst ex
  obtain ⟨mA, J, _⟩ := ins_get I.hok ha
  obtain ⟨od, J, _⟩ := J.look
  obtain ⟨m, hF⟩ := I.fr
  have eu : us = [Value.ref a] := by
    cases r with
    | cons h1 h2 =>
      cases h2
      rw [show _ = Value.ref a from h1]
  subst eu
  refine PySem.W.len_K hF I.ok.mod.kin J hs hf ?_
  have hl := F.len _ _ _ _ h
  have r2 : Vals [V.ref a] [Value.ref a] := .cons rfl .nil
  refine wpAny_call (codeAny_mono (F.run X.A.in1 X.stack s H ⟨[.ref a], []⟩ [.ref a] [.ref a] _ _ hr.in1 I.env0.in1 (by
    have := hb s [.ref a] I.kIn (by simpa using hl)
    simpa using this) r2 h) fun r s' hq => ?_)
  cases r with
  | error e => exact hx pins σ H s e s' I hq
  | ok fl =>
    cases fl with
    | ret u =>
      obtain ⟨v, H', I', rv, n, ev, hn, q⟩ := I.after hq
      subst ev
      obtain ⟨t, rfl⟩ := rv
      exact ⟨⟨by omega, by omega⟩, .int n, H', I'.tok _, ⟨_, rfl⟩, q⟩
    | next => exact False.elim hq
    | brk => exact False.elim hq
    | cont => exact False.elim hq
end
section
variable {K : PySem.W.Frag} {ta tb te : TE} {ρ : List En} {C : Addr} {fs : List (Str × D)}
theorem od_inI {Rg : List D → (En → Prop) → Prop} {neg : Bool} {x : D} {b : Bool} (hr : Rg [.ins C fs, x] (· = .dat (.bl b))) : OD (rInI C (SpE Rg) neg) x (.ins C fs) (· = .dat (.bl (if neg then !b else b))) := fun W v w r1 r2 Q q => by
  have r2' := r2
  cases r2 with
  | ins h1 h2 rf =>
    refine ⟨_, _, _, rfl, W.le _ _ h1, W, [.ins C fs, x], (· = .dat (.bl b)), rfl, .cons r2' (.cons r1 .nil), hr, fun u e W' g r p => ?_⟩
    subst p
    cases r
    exact ⟨b, rfl, q _ (.dat (.bl _)) W' g (.bl _) rfl⟩
theorem cd_lenI {Rg : List D → (En → Prop) → Prop} {n : Nat} (hn : n < 2 ^ 62) (hr : Rg [.ins C fs] (· = .dat (.int n))) : CD (rLenI C (SpE Rg)) [.ins C fs] (· = .dat (.int n)) := fun W vs r Q q => by
  cases r with
  | cons r1 rr =>
    cases rr
    have r1' := r1
    cases r1 with
    | ins h1 h2 rf =>
      refine ⟨_, _, _, rfl, W.le _ _ h1, W, [.ins C fs], (· = .dat (.int n)), rfl, .cons r1' .nil, hr, fun u e W' g r p => ?_⟩
      subst p
      cases r
      exact ⟨n, rfl, hn, q _ (.dat (.int n)) W' g (.int _) rfl⟩
end
end Nt

namespace Nt
open PySem PySem.Spec PyProof.Rows L2
/-! ### enumerate(list) -/
section
variable {K : PySem.W.Frag} {ar : TA} {ρ : List En}
theorem iv_enumL {ds : List D} (h : EA ar ρ (· = [.lst ds])) : IV2 (iEnum K ar) ρ (· = (ixs ds.length).zip ds) := fun W0 W σ E R q => h W0 W σ E _ fun vs es W' g r e => by
  subst e
  cases r with
  | cons r1 rr =>
    cases rr
    cases r1 with
    | lst ha ra =>
      rename_i a us
      have l1 := ra.len
      have hl : ((ixs ds.length).zip ds).length = ds.length := by simp [ixs]
      refine ⟨a, us, rfl, sq_l (W'.le _ _ ha), q _ _ W' g ⟨fun W2 e2 i hi => ?_, fun W2 e2 => ?_, fun W2 e2 i v H' hi y => ?_⟩ rfl⟩
      · rw [hl] at hi
        exact ⟨us, us[i]'(by omega), sq_l (W2.le _ _ (e2 _ _ ha)), List.getElem?_eq_getElem _⟩
      · exact ⟨us, sq_l (W2.le _ _ (e2 _ _ ha)), by rw [hl]; omega⟩
      · rw [hl] at hi
        obtain ⟨T, x, h1, h2, h3, h4⟩ := y
        obtain ⟨d1, e3, q1⟩ := (ra.mono e2).at (h4 us (sq_l (W2.le _ _ (e2 _ _ ha))))
        exact ⟨T, _, x, (.int i, d1), h1, h2, h3, by rw [List.getElem?_zip_eq_some]; exact ⟨ixs_get hi, e3⟩, .int _, q1⟩
end
/-! ### own dicts: len, sorted, {e: f for x in xs} -/
def rLenD : List V → Hp → VK → Prop := fun xs H Q => ∃ a kvs, xs = [V.ref a] ∧ H a = some (.dK kvs) ∧ Q (.int kvs.length) H
def rSortD : List V → Hp → VK → Prop := fun xs H Q => ∃ (a : Addr) (kvs : List (Key × V)) (ks : List Str), xs = [.ref a] ∧ Rd H a (.dK kvs) ∧ kvs.map (·.1) = ks.map Sum.inr ∧ ks.length < 64 ∧
    ∀ ys p, ys.Perm ks → sortedS ys = true → H p = none → Q (.ref p) (upd H p (.lst (ys.map V.str)))
theorem call_lenDK {X : Cx} : CallR X (.builtin "len") rLenD := call_lenD
theorem call_sortDK {X : Cx} (hc : X.calm = true) : CallR X (.builtin "sorted") rSortD := call_sortedD hc
section
variable {K : PySem.W.Frag} {ta tb te tk1 tv : TE} {ρ : List En} {i j : Nat} {wi : TI}
theorem e_lenD {kd : List (Key × D)} (h : ρ[i]? = some (.dct kd)) : ED (tCB rLenD (tCons (tVar i) tNil)) ρ (· = .int (kd.length : Nat)) := fun W0 W σ E Q q => by
  obtain ⟨l, kvs, hv, h1, _, r, _⟩ := E.mutK (kd' := []) h
  refine ⟨.ref l, hv, l, kvs, rfl, h1, ?_⟩
  rw [r.len]
  exact q _ (.int _) W (Grow.refl W) (.int _) rfl
theorem e_sortD {F : List (List Nat)} {f : List Nat → D} (h : ρ[i]? = some (.dct (F.map fun z => (tk z, f z)))) (hl : F.length < 64) (nd : F.Nodup) : EV (tCB rSortD (tCons (tVar i) tNil)) ρ (fun e => ∃ M : List (List Nat), e = .own (M.map D.str) ∧ M.Perm F ∧ M.Pairwise (· < ·)) := fun W0 W σ E Q q => by
  obtain ⟨l, kvs, hv, h1, _, r, _⟩ := E.mutK (kd' := []) h
  have hk : kvs.map (·.1) = (F.map fun s => (⟨s.toArray⟩ : Str)).map Sum.inr := by
    have := r.keys
    rw [List.map_map] at this
    rw [List.map_map]
    exact this
  refine ⟨.ref l, hv, l, kvs, F.map fun s => (⟨s.toArray⟩ : Str), rfl, .of h1, hk, by rw [List.length_map]; exact hl, fun ys pp hp hs hn => ?_⟩
  have pm := strs_back (H := W.b) hp
  obtain ⟨g, c⟩ := new_own (Grow.refl W) hn (rep_strs (H := W.b) ys)
  exact q (.ref pp) _ _ g c ⟨ys.map fun y => y.cps.toList, by rw [List.map_map]; rfl, pm, sorted2 hs (pm.nodup_iff.mpr nd)⟩
theorem RepK.keysM {H : Hp} {kd : List (Key × D)} {kvs : List (Key × V)} (r : RepK H kd kvs) : kvs.map (·.1) = kd.map Prod.fst := r.keys
structure Ldc (W : Wd) (Dd : Addr) (F : List (List Nat)) (f : List Nat → D) (i : Nat) (H : Hp) : Prop where
  ex : ∃ (W' : Wd) (kvs : List (Key × V)), W'.h = H ∧ Grow W W' ∧ W'.h Dd = some (.dK kvs) ∧ W'.b Dd = none ∧ RepK W'.b ((F.take i).map fun z => (tk z, f z)) kvs
theorem e_dcomp {F : List (List Nat)} {f : List Nat → D} (h : IV1 wi ρ (· = F.map D.str)) (hn : F.length < 100000) (nd : F.Nodup) (hk : ∀ (i : Nat) s, F[i]? = some s → ED tk1 (ρ.set j (.dat (.str s))) (· = .str s)) (hv : ∀ (i : Nat) s, F[i]? = some s → ED tv (ρ.set j (.dat (.str s))) (· = f s)) :
    EV (tDc wi (gName j) tYes tk1 tv [j]) ρ (· = .dct (F.map fun z => (tk z, f z))) := fun W0 W σ E Q q => h W0 W σ E _ fun J ds W1 g1 it t Dd hD => by
  subst t
  have E1 := E.grow g1
  have hl : (F.map D.str).length = F.length := List.length_map ..
  refine ⟨fun i m H => i ≤ F.length ∧ m = F.length - i ∧ Ldc W1 Dd F f i H, ⟨F.length, Nat.zero_le _, rfl, ⟨W1.add Dd (.dK []) hD, [], rfl, Grow.add hD, upd_same, W1.le.none' hD, .nil⟩⟩, ?_⟩
  rintro i m H ⟨hi, hm, ⟨W', kvs, rfl, g, k1, k2, r⟩⟩
  by_cases hlt : i < F.length
  · refine .inr ⟨it.go W' g.b i (by omega), fun H' => Ldc W1 Dd F f (i + 1) H', fun H' l => ⟨F.length - (i + 1), by omega, hlt, rfl, l⟩, fun x H' y => ?_⟩
    obtain ⟨e, d, hd, rd⟩ := it.yld W' g.b i x H' (by omega) y
    subst e
    obtain ⟨s, hs, rfl⟩ := map_get hd
    have E2 : Env W0 W' ((σ.set j none).set j (some x)) ((ρ.set j .un).set j (.dat (.str s))) := Env.set ((E1.grow g).drop j none) (Grow.refl W') (e := .dat (.str s)) rd j
    have er : (ρ.set j .un).set j (.dat (.str s)) = ρ.set j (.dat (.str s)) := List.set_set ..
    rw [er] at E2
    refine ⟨set_wipe, ?_⟩
    dsimp only [tYes]
    rw [if_pos rfl]
    refine hk i s hs W0 W' _ E2 _ fun v1 d1 W2 g2 r1 e1 => hv i s hs W0 W2 _ (E2.grow g2) _ fun v2 d2 W3 g3 r2 e2 => ?_
    subst e1 e2
    cases r1
    have gg := g2.trans g3
    have k3 : W3.h Dd = some (.dK kvs) := gg.h _ _ k1
    have k4 : W3.b Dd = none := gg.nw Dd k2 (by rw [k1]; exact fun z => nomatch z)
    have hkl : kvs.length = i := by rw [r.len, List.length_map, List.length_take, Nat.min_eq_left hi]
    have hnot : ¬ tk s ∈ ((F.take i).map fun z => (tk z, f z)).map Prod.fst := fun z => by
      have := mem_tk.mp z
      obtain ⟨m, hm⟩ := List.mem_iff_getElem?.mp this
      rw [List.getElem?_take] at hm
      split at hm
      · rename_i hmi
        have := (List.getElem?_inj (i := m) (j := i) (by omega) nd).mp (hm.trans hs.symm)
        omega
      · cases hm
    have ep : putK kvs (tk s) v2 = kvs ++ [(tk s, v2)] := by
      unfold putK
      rw [any_key, r.keys, decide_eq_false hnot]
      rfl
    refine ⟨kvs, tk s, rfl, k3, Evl.sz_lt (by rw [hkl]; omega), ?_⟩
    rw [ep]
    refine ⟨⟨⟨W3.b, upd W3.h Dd (.dK (kvs ++ [(tk s, v2)])), fun a o e => ?_⟩, _, rfl, ⟨(g.trans gg).b, fun a o e => ?_, (g.trans gg).nw⟩, upd_same, k4, ?_⟩⟩
    · show upd W3.h Dd _ a = some o
      rw [upd_ne (fun z => by rw [z, k4] at e; cases e)]; exact W3.le _ _ e
    · show upd W3.h Dd _ a = some o
      rw [upd_ne (ne_of_none e hD)]; exact (g.trans gg).h _ _ e
    · rw [List.take_add_one, hs]
      show RepK W3.b (((F.take i) ++ [s]).map fun z => (tk z, f z)) _
      rw [List.map_append]
      exact (r.mono gg.b).app (.cons r2 .nil)
  · have e : i = F.length := by omega
    subst e
    refine .inl ⟨by have := it.stop W' g.b; rw [hl] at this; exact this, q _ (.dct (F.map fun z => (tk z, f z))) W' (g1.trans g) ⟨Dd, kvs, rfl, k1, k2, g1.h.none' hD, by rw [List.take_length] at r; exact r⟩ rfl⟩
end
end Nt

namespace Nt
open PySem PySem.Spec PyProof.Rows L2
/-! ### list(text) -/
def rListT : List V → Hp → VK → Prop := fun xs H Q => ∃ z : Str, xs = [.str z] ∧ z.cps.size ≤ sizeLine ∧ ∀ l, H l = none → Q (.ref l) (upd H l (.lst (z.cps.toList.map fun c => V.str ⟨#[c]⟩)))
theorem signs_vals {z : Str} : ∀ (l : List Value) (cs : List Nat), l.length = cs.length → (∀ (j : Nat) (v : Value), l[j]? = some v → ∃ c t, cs[j]? = some c ∧ v = .str ⟨#[c]⟩ t) → Vals (cs.map fun c => V.str ⟨#[c]⟩) l
  | [], [], _, _ => .nil
  | v :: l, c :: cs, hl, h => by
    obtain ⟨c', t, e1, e2⟩ := h 0 v rfl
    have e1' : c = c' := Option.some.inj e1
    subst e1' e2
    exact .cons ⟨t, rfl⟩ (signs_vals (z := z) l cs (by simpa using hl) fun j v e => h (j + 1) v (by simpa using e))
  | [], _ :: _, hl, _ => by simp at hl
  | _ :: _, [], hl, _ => by simp at hl
theorem call_listT {X : Cx} (hc : X.calm = true) : CallR X (.type "list") rListT := by
  intro pins s σ H xs us Q I r h
  obtain ⟨z, rfl, hz, q⟩ := h
  obtain ⟨u, rfl, t, rfl⟩ := vals1 r
  refine call_list_str (I.ok.hd hc) z t (fun h' tk acc' c' hk hS hacc => ?_) hz
  have hv : Vals (z.cps.toList.map fun c => V.str ⟨#[c]⟩) acc'.toList := signs_vals (z := z) _ _ (by rw [Array.length_toList]; exact hacc.1.trans (by simp)) fun j v e => by
    have := hacc.2 j v (by rw [← Array.getElem?_toList]; exact e)
    obtain ⟨c, t, h1, h2⟩ := this
    exact ⟨c, t, by simpa using h1, h2⟩
  exact ⟨.ref s.heap.objs.size, upd H s.heap.objs.size (.lst (z.cps.toList.map fun c => V.str ⟨#[c]⟩)), I.laid (t' := tk) hk (Nat.le_refl _) (show ObjOk X.prog X.w _ _ _ (.lst _) from ⟨by rw [List.length_map, Array.length_toList]; exact hz, acc'.toList, c', hv, by rw [Array.toArray_toList]; exact hS⟩), rfl, q _ (I.hok.fresh (Nat.le_refl _))⟩
theorem cd_listT1 {s : List Nat} (h : s.length ≤ 100000) : CD rListT [.str s] (· = .own (s.map fun c => D.str [c])) := fun W vs r Q q => by
  cases r with
  | cons r rr =>
    cases rr
    cases r
    refine ⟨⟨s.toArray⟩, rfl, Evl.sz_of (by simpa using h), fun l hl => ?_⟩
    have hr : Reps W.b (s.map fun c => D.str [c]) ((⟨s.toArray⟩ : Str).cps.toList.map fun c => V.str ⟨#[c]⟩) := by
      have : ∀ l : List Nat, Reps W.b (l.map fun c => D.str [c]) (l.map fun c => V.str ⟨#[c]⟩) := fun l => by
        induction l with
        | nil => exact .nil
        | cons c l ih => exact .cons (.str [c]) ih
      simpa using this s
    obtain ⟨g, c⟩ := new_own (Grow.refl W) hl hr
    exact q (.ref l) _ _ g c rfl
end Nt

namespace Nt
open PySem PySem.Spec PyProof.Rows L2

/-- what the top has written -/
structure Txt (K : PySem.W.Frag) (mg : Str → Option Value) where
  a_is_name : Addr
  d_is_name : FuncData
  a_is_integer : Addr
  d_is_integer : FuncData
  a_is_number : Addr
  d_is_number : FuncData
  a_is_cell : Addr
  d_is_cell : FuncData
  a_check_cells : Addr
  d_check_cells : FuncData
  a_is_row : Addr
  d_is_row : FuncData
  a_over : Addr
  d_over : FuncData
  a_lot_of : Addr
  d_lot_of : FuncData
  a_blank : Addr
  d_blank : FuncData
  a_union : Addr
  d_union : FuncData
  a_lot_size : Addr
  d_lot_size : FuncData
  a_ordered_lots : Addr
  d_ordered_lots : FuncData
  a_outside : Addr
  d_outside : FuncData
  a_barring : Addr
  d_barring : FuncData
  a_can_be_taken : Addr
  d_can_be_taken : FuncData
  a_next_taken : Addr
  d_next_taken : FuncData
  a_taking : Addr
  d_taking : FuncData
  a_tellers_outside : Addr
  d_tellers_outside : FuncData
  a_comes_to : Addr
  d_comes_to : FuncData
  a_come : Addr
  d_come : FuncData
  a_is_made : Addr
  d_is_made : FuncData
  a_word_of : Addr
  d_word_of : FuncData
  a_follow_takes : Addr
  d_follow_takes : FuncData
  a_bar_holds : Addr
  d_bar_holds : FuncData
  a_count_bars : Addr
  d_count_bars : FuncData
  a_look : Addr
  d_look : FuncData
  a_check_seeds : Addr
  d_check_seeds : FuncData
  a_check_told : Addr
  d_check_told : FuncData
  a_made_rows : Addr
  d_made_rows : FuncData
  a_law_bag : Addr
  d_law_bag : FuncData
  a_law_draw : Addr
  d_law_draw : FuncData
  a_law_of : Addr
  d_law_of : FuncData
  a_law_same : Addr
  d_law_same : FuncData
  a_law_title : Addr
  d_law_title : FuncData
  a_law_frame : Addr
  d_law_frame : FuncData
  a_law_row : Addr
  d_law_row : FuncData
  a_law_once : Addr
  d_law_once : FuncData
  a_law_stack : Addr
  d_law_stack : FuncData
  a_law_size : Addr
  d_law_size : FuncData
  a_law_lay : Addr
  d_law_lay : FuncData
  a_law_lot : Addr
  d_law_lot : FuncData
  a_law_join : Addr
  d_law_join : FuncData
  a_law_lots : Addr
  d_law_lots : FuncData
  a_law_rows : Addr
  d_law_rows : FuncData
  a_law_fresh : Addr
  d_law_fresh : FuncData
  a_law_fits : Addr
  d_law_fits : FuncData
  a_law_greedy : Addr
  d_law_greedy : FuncData
  a_law_lines : Addr
  d_law_lines : FuncData
  a_law_fillings : Addr
  d_law_fillings : FuncData
  a_law_paper_so : Addr
  d_law_paper_so : FuncData
  a_law : Addr
  d_law : FuncData
  a_Band___init : Addr
  d_Band___init : FuncData
  a_Band_rows : Addr
  d_Band_rows : FuncData
  a_Band_full_rows : Addr
  d_Band_full_rows : FuncData
  a_Band_lots : Addr
  d_Band_lots : FuncData
  a_Band_come : Addr
  d_Band_come : FuncData
  a_Band___contains : Addr
  d_Band___contains : FuncData
  a_Band___len : Addr
  d_Band___len : FuncData
  F_is_name : Fun K "is_name" "is_name" s_is_name a_is_name d_is_name
  g_is_name : mg "is_name" = some (.ref a_is_name)
  F_is_integer : Fun K "is_integer" "is_integer" s_is_integer a_is_integer d_is_integer
  g_is_integer : mg "is_integer" = some (.ref a_is_integer)
  F_is_number : Fun K "is_number" "is_number" s_is_number a_is_number d_is_number
  g_is_number : mg "is_number" = some (.ref a_is_number)
  F_is_cell : Fun K "is_cell" "is_cell" s_is_cell a_is_cell d_is_cell
  g_is_cell : mg "is_cell" = some (.ref a_is_cell)
  F_check_cells : Fun K "check_cells" "check_cells" s_check_cells a_check_cells d_check_cells
  g_check_cells : mg "check_cells" = some (.ref a_check_cells)
  F_is_row : Fun K "is_row" "is_row" s_is_row a_is_row d_is_row
  g_is_row : mg "is_row" = some (.ref a_is_row)
  F_over : Fun K "over" "over" s_over a_over d_over
  g_over : mg "over" = some (.ref a_over)
  F_lot_of : Fun K "lot_of" "lot_of" s_lot_of a_lot_of d_lot_of
  g_lot_of : mg "lot_of" = some (.ref a_lot_of)
  F_blank : Fun K "blank" "blank" s_blank a_blank d_blank
  g_blank : mg "blank" = some (.ref a_blank)
  F_union : Fun K "union" "union" s_union a_union d_union
  g_union : mg "union" = some (.ref a_union)
  F_lot_size : Fun K "lot_size" "lot_size" s_lot_size a_lot_size d_lot_size
  g_lot_size : mg "lot_size" = some (.ref a_lot_size)
  F_ordered_lots : Fun K "ordered_lots" "ordered_lots" s_ordered_lots a_ordered_lots d_ordered_lots
  g_ordered_lots : mg "ordered_lots" = some (.ref a_ordered_lots)
  F_outside : Fun K "outside" "outside" s_outside a_outside d_outside
  g_outside : mg "outside" = some (.ref a_outside)
  F_barring : Fun K "barring" "barring" s_barring a_barring d_barring
  g_barring : mg "barring" = some (.ref a_barring)
  F_can_be_taken : Fun K "can_be_taken" "can_be_taken" s_can_be_taken a_can_be_taken d_can_be_taken
  g_can_be_taken : mg "can_be_taken" = some (.ref a_can_be_taken)
  F_next_taken : Fun K "next_taken" "next_taken" s_next_taken a_next_taken d_next_taken
  g_next_taken : mg "next_taken" = some (.ref a_next_taken)
  F_taking : Fun K "taking" "taking" s_taking a_taking d_taking
  g_taking : mg "taking" = some (.ref a_taking)
  F_tellers_outside : Fun K "tellers_outside" "tellers_outside" s_tellers_outside a_tellers_outside d_tellers_outside
  g_tellers_outside : mg "tellers_outside" = some (.ref a_tellers_outside)
  F_comes_to : Fun K "comes_to" "comes_to" s_comes_to a_comes_to d_comes_to
  g_comes_to : mg "comes_to" = some (.ref a_comes_to)
  F_come : Fun K "come" "come" s_come a_come d_come
  g_come : mg "come" = some (.ref a_come)
  F_is_made : Fun K "is_made" "is_made" s_is_made a_is_made d_is_made
  g_is_made : mg "is_made" = some (.ref a_is_made)
  F_word_of : Fun K "word_of" "word_of" s_word_of a_word_of d_word_of
  g_word_of : mg "word_of" = some (.ref a_word_of)
  F_follow_takes : Fun K "follow_takes" "follow_takes" s_follow_takes a_follow_takes d_follow_takes
  g_follow_takes : mg "follow_takes" = some (.ref a_follow_takes)
  F_bar_holds : Fun K "bar_holds" "bar_holds" s_bar_holds a_bar_holds d_bar_holds
  g_bar_holds : mg "bar_holds" = some (.ref a_bar_holds)
  F_count_bars : Fun K "count_bars" "count_bars" s_count_bars a_count_bars d_count_bars
  g_count_bars : mg "count_bars" = some (.ref a_count_bars)
  F_look : Fun K "look" "look" s_look a_look d_look
  g_look : mg "look" = some (.ref a_look)
  F_check_seeds : Fun K "check_seeds" "check_seeds" s_check_seeds a_check_seeds d_check_seeds
  g_check_seeds : mg "check_seeds" = some (.ref a_check_seeds)
  F_check_told : Fun K "check_told" "check_told" s_check_told a_check_told d_check_told
  g_check_told : mg "check_told" = some (.ref a_check_told)
  F_made_rows : Fun K "made_rows" "made_rows" s_made_rows a_made_rows d_made_rows
  g_made_rows : mg "made_rows" = some (.ref a_made_rows)
  F_law_bag : Fun K "_law_bag" "_law_bag" s_law_bag a_law_bag d_law_bag
  g_law_bag : mg "_law_bag" = some (.ref a_law_bag)
  F_law_draw : Fun K "_law_draw" "_law_draw" s_law_draw a_law_draw d_law_draw
  g_law_draw : mg "_law_draw" = some (.ref a_law_draw)
  F_law_of : Fun K "_law_of" "_law_of" s_law_of a_law_of d_law_of
  g_law_of : mg "_law_of" = some (.ref a_law_of)
  F_law_same : Fun K "_law_same" "_law_same" s_law_same a_law_same d_law_same
  g_law_same : mg "_law_same" = some (.ref a_law_same)
  F_law_title : Fun K "_law_title" "_law_title" s_law_title a_law_title d_law_title
  g_law_title : mg "_law_title" = some (.ref a_law_title)
  F_law_frame : Fun K "_law_frame" "_law_frame" s_law_frame a_law_frame d_law_frame
  g_law_frame : mg "_law_frame" = some (.ref a_law_frame)
  F_law_row : FunD K "_law_row" "_law_row" (defArgs s_law_row) (defBody s_law_row) (defScope s_law_row) [.int 2] [] a_law_row d_law_row
  g_law_row : mg "_law_row" = some (.ref a_law_row)
  F_law_once : Fun K "_law_once" "_law_once" s_law_once a_law_once d_law_once
  g_law_once : mg "_law_once" = some (.ref a_law_once)
  F_law_stack : Fun K "_law_stack" "_law_stack" s_law_stack a_law_stack d_law_stack
  g_law_stack : mg "_law_stack" = some (.ref a_law_stack)
  F_law_size : Fun K "_law_size" "_law_size" s_law_size a_law_size d_law_size
  g_law_size : mg "_law_size" = some (.ref a_law_size)
  F_law_lay : Fun K "_law_lay" "_law_lay" s_law_lay a_law_lay d_law_lay
  g_law_lay : mg "_law_lay" = some (.ref a_law_lay)
  F_law_lot : Fun K "_law_lot" "_law_lot" s_law_lot a_law_lot d_law_lot
  g_law_lot : mg "_law_lot" = some (.ref a_law_lot)
  F_law_join : Fun K "_law_join" "_law_join" s_law_join a_law_join d_law_join
  g_law_join : mg "_law_join" = some (.ref a_law_join)
  F_law_lots : Fun K "_law_lots" "_law_lots" s_law_lots a_law_lots d_law_lots
  g_law_lots : mg "_law_lots" = some (.ref a_law_lots)
  F_law_rows : Fun K "_law_rows" "_law_rows" s_law_rows a_law_rows d_law_rows
  g_law_rows : mg "_law_rows" = some (.ref a_law_rows)
  F_law_fresh : Fun K "_law_fresh" "_law_fresh" s_law_fresh a_law_fresh d_law_fresh
  g_law_fresh : mg "_law_fresh" = some (.ref a_law_fresh)
  F_law_fits : Fun K "_law_fits" "_law_fits" s_law_fits a_law_fits d_law_fits
  g_law_fits : mg "_law_fits" = some (.ref a_law_fits)
  F_law_greedy : Fun K "_law_greedy" "_law_greedy" s_law_greedy a_law_greedy d_law_greedy
  g_law_greedy : mg "_law_greedy" = some (.ref a_law_greedy)
  F_law_lines : Fun K "_law_lines" "_law_lines" s_law_lines a_law_lines d_law_lines
  g_law_lines : mg "_law_lines" = some (.ref a_law_lines)
  F_law_fillings : Fun K "_law_fillings" "_law_fillings" s_law_fillings a_law_fillings d_law_fillings
  g_law_fillings : mg "_law_fillings" = some (.ref a_law_fillings)
  F_law_paper_so : Fun K "_law_paper_so" "_law_paper_so" s_law_paper_so a_law_paper_so d_law_paper_so
  g_law_paper_so : mg "_law_paper_so" = some (.ref a_law_paper_so)
  F_law : Fun K "law" "law" s_law a_law d_law
  g_law : mg "law" = some (.ref a_law)
  F_Band___init : FunD K "__init__" "Band.__init__" (defArgs s_Band___init) (defBody s_Band___init) (defScope s_Band___init) [] [("most", .int 800)] a_Band___init d_Band___init
  F_Band_rows : Fun K "rows" "Band.rows" s_Band_rows a_Band_rows d_Band_rows
  F_Band_full_rows : Fun K "full_rows" "Band.full_rows" s_Band_full_rows a_Band_full_rows d_Band_full_rows
  F_Band_lots : Fun K "lots" "Band.lots" s_Band_lots a_Band_lots d_Band_lots
  F_Band_come : FunD K "come" "Band.come" (defArgs s_Band_come) (defBody s_Band_come) (defScope s_Band_come) [] [("seeds", .non)] a_Band_come d_Band_come
  F_Band___contains : Fun K "__contains__" "Band.__contains__" s_Band___contains a_Band___contains d_Band___contains
  F_Band___len : Fun K "__len__" "Band.__len__" s_Band___len a_Band___len d_Band___len
  g_come_coming : mg "come_coming" = some (.ref a_come)
  a_Band : Addr
  g_Band : mg "Band" = some (.ref a_Band)
  cl_Band : Cls K a_Band
  mk_Band : Mk K a_Band a_Band___init
  na_Band_cells : NoAttr K a_Band "_cells"
  na_Band_seeds : NoAttr K a_Band "_seeds"
  na_Band_rows : NoAttr K a_Band "_rows"
  na_Band_known : NoAttr K a_Band "_known"
  na_Band_lots : NoAttr K a_Band "_lots"
  me_Band_rows : Meth K a_Band "rows" a_Band_rows
  me_Band_full_rows : Meth K a_Band "full_rows" a_Band_full_rows
  me_Band_lots : Meth K a_Band "lots" a_Band_lots
  me_Band_come : Meth K a_Band "come" a_Band_come
  len_Band : PySem.W.findIn K (.ref a_Band) "__len__" = some (some (.ref a_Band___len))
  isf_Band___len : PySem.W.isFn K (.ref a_Band___len) = true
  con_Band : PySem.W.findIn K (.ref a_Band) "__contains__" = some (some (.ref a_Band___contains))
  isf_Band___contains : PySem.W.isFn K (.ref a_Band___contains) = true
  a_LINE_SIZES : Addr
  g_LINE_SIZES : mg "LINE_SIZES" = some (.ref a_LINE_SIZES)
  v_LINE_SIZES : ∀ q ∈ ([("row", 2), ("take", 2), ("made", 1), ("bar", 3), ("barred", 1)] : List (Str × Int)), ∃ u, PySem.W.nsIn K a_LINE_SIZES q.1 = some (some u) ∧ RelV (.int q.2) u
  n_len : mg "len" = none
  n_all : mg "all" = none
  n_range : mg "range" = none
  n_zip : mg "zip" = none
  n_enumerate : mg "enumerate" = none
  n_isinstance : mg "isinstance" = none
  n_list : mg "list" = none
  n_tuple : mg "tuple" = none
  n_dict : mg "dict" = none
  n_str : mg "str" = none
  n_int : mg "int" = none
  n_bool : mg "bool" = none
  n_abs : mg "abs" = none
  n_sorted : mg "sorted" = none
  n_set : mg "set" = none
  n_super : mg "super" = none
  t_LONGEST_NAME : Tok
  c_LONGEST_NAME : mg "LONGEST_NAME" = some (.int 6 t_LONGEST_NAME)
  t_ROW_SIGNS : Tok
  c_ROW_SIGNS : mg "ROW_SIGNS" = some (.str ".0123" t_ROW_SIGNS)
  t_MOST_ROWS : Tok
  c_MOST_ROWS : mg "MOST_ROWS" = some (.int 800 t_MOST_ROWS)
  t_MOST_SEEDS : Tok
  c_MOST_SEEDS : mg "MOST_SEEDS" = some (.int 30 t_MOST_SEEDS)
  t_MOST_CELLS : Tok
  c_MOST_CELLS : mg "MOST_CELLS" = some (.int 12 t_MOST_CELLS)
  t_MOST_VALUES : Tok
  c_MOST_VALUES : mg "MOST_VALUES" = some (.int 4 t_MOST_VALUES)
  t_DIGITS : Tok
  c_DIGITS : mg "DIGITS" = some (.str "0123" t_DIGITS)
  t_DOT : Tok
  c_DOT : mg "DOT" = some (.str "." t_DOT)
  t_PLUS : Tok
  c_PLUS : mg "PLUS" = some (.str "+" t_PLUS)
theorem sc_is_name : FnScope N_is_name ["value"] (defScope s_is_name) := ⟨rfl, rfl, rfl, by decide +kernel, rfl, by decide +kernel, by decide +kernel⟩
theorem sc_is_integer : FnScope N_is_integer ["value"] (defScope s_is_integer) := ⟨rfl, rfl, rfl, by decide +kernel, rfl, by decide +kernel, by decide +kernel⟩
theorem sc_is_number : FnScope N_is_number ["value", "least", "most"] (defScope s_is_number) := ⟨rfl, rfl, rfl, by decide +kernel, rfl, by decide +kernel, by decide +kernel⟩
theorem sc_is_cell : FnScope N_is_cell ["value"] (defScope s_is_cell) := ⟨rfl, rfl, rfl, by decide +kernel, rfl, by decide +kernel, by decide +kernel⟩
theorem sc_check_cells : FnScope N_check_cells ["cells"] (defScope s_check_cells) := ⟨rfl, rfl, rfl, by decide +kernel, rfl, by decide +kernel, by decide +kernel⟩
theorem sc_is_row : FnScope N_is_row ["cells", "value"] (defScope s_is_row) := ⟨rfl, rfl, rfl, by decide +kernel, rfl, by decide +kernel, by decide +kernel⟩
theorem sc_over : FnScope N_over ["newer", "older"] (defScope s_over) := ⟨rfl, rfl, rfl, by decide +kernel, rfl, by decide +kernel, by decide +kernel⟩
theorem sc_lot_of : FnScope N_lot_of ["row"] (defScope s_lot_of) := ⟨rfl, rfl, rfl, by decide +kernel, rfl, by decide +kernel, by decide +kernel⟩
theorem sc_blank : FnScope N_blank ["many"] (defScope s_blank) := ⟨rfl, rfl, rfl, by decide +kernel, rfl, by decide +kernel, by decide +kernel⟩
theorem sc_union : FnScope N_union ["one", "other"] (defScope s_union) := ⟨rfl, rfl, rfl, by decide +kernel, rfl, by decide +kernel, by decide +kernel⟩
theorem sc_lot_size : FnScope N_lot_size ["lot"] (defScope s_lot_size) := ⟨rfl, rfl, rfl, by decide +kernel, rfl, by decide +kernel, by decide +kernel⟩
theorem sc_ordered_lots : FnScope N_ordered_lots ["lots"] (defScope s_ordered_lots) := ⟨rfl, rfl, rfl, by decide +kernel, rfl, by decide +kernel, by decide +kernel⟩
theorem sc_outside : FnScope N_outside ["seed", "told"] (defScope s_outside) := ⟨rfl, rfl, rfl, by decide +kernel, rfl, by decide +kernel, by decide +kernel⟩
theorem sc_barring : FnScope N_barring ["seed", "told", "row"] (defScope s_barring) := ⟨rfl, rfl, rfl, by decide +kernel, rfl, by decide +kernel, by decide +kernel⟩
theorem sc_can_be_taken : FnScope N_can_be_taken ["seed", "told", "row"] (defScope s_can_be_taken) := ⟨rfl, rfl, rfl, by decide +kernel, rfl, by decide +kernel, by decide +kernel⟩
theorem sc_next_taken : FnScope N_next_taken ["seeds", "told", "row"] (defScope s_next_taken) := ⟨rfl, rfl, rfl, by decide +kernel, rfl, by decide +kernel, by decide +kernel⟩
theorem sc_taking : FnScope N_taking ["seeds", "row"] (defScope s_taking) := ⟨rfl, rfl, rfl, by decide +kernel, rfl, by decide +kernel, by decide +kernel⟩
theorem sc_tellers_outside : FnScope N_tellers_outside ["seeds", "told"] (defScope s_tellers_outside) := ⟨rfl, rfl, rfl, by decide +kernel, rfl, by decide +kernel, by decide +kernel⟩
theorem sc_comes_to : FnScope N_comes_to ["seeds", "row"] (defScope s_comes_to) := ⟨rfl, rfl, rfl, by decide +kernel, rfl, by decide +kernel, by decide +kernel⟩
theorem sc_come : FnScope N_come ["cells", "seeds", "row"] (defScope s_come) := ⟨rfl, rfl, rfl, by decide +kernel, rfl, by decide +kernel, by decide +kernel⟩
theorem sc_is_made : FnScope N_is_made ["cells", "seeds", "row"] (defScope s_is_made) := ⟨rfl, rfl, rfl, by decide +kernel, rfl, by decide +kernel, by decide +kernel⟩
theorem sc_word_of : FnScope N_word_of ["line"] (defScope s_word_of) := ⟨rfl, rfl, rfl, by decide +kernel, rfl, by decide +kernel, by decide +kernel⟩
theorem sc_follow_takes : FnScope N_follow_takes ["seeds", "row", "paper"] (defScope s_follow_takes) := ⟨rfl, rfl, rfl, by decide +kernel, rfl, by decide +kernel, by decide +kernel⟩
theorem sc_bar_holds : FnScope N_bar_holds ["cells", "seed", "told", "row", "line"] (defScope s_bar_holds) := ⟨rfl, rfl, rfl, by decide +kernel, rfl, by decide +kernel, by decide +kernel⟩
theorem sc_count_bars : FnScope N_count_bars ["cells", "waiting", "told", "row", "lines"] (defScope s_count_bars) := ⟨rfl, rfl, rfl, by decide +kernel, rfl, by decide +kernel, by decide +kernel⟩
theorem sc_look : FnScope N_look ["cells", "seeds", "paper"] (defScope s_look) := ⟨rfl, rfl, rfl, by decide +kernel, rfl, by decide +kernel, by decide +kernel⟩
theorem sc_check_seeds : FnScope N_check_seeds ["cells", "seeds"] (defScope s_check_seeds) := ⟨rfl, rfl, rfl, by decide +kernel, rfl, by decide +kernel, by decide +kernel⟩
theorem sc_check_told : FnScope N_check_told ["cells", "rows"] (defScope s_check_told) := ⟨rfl, rfl, rfl, by decide +kernel, rfl, by decide +kernel, by decide +kernel⟩
theorem sc_made_rows : FnScope N_made_rows ["many", "seeds", "most"] (defScope s_made_rows) := ⟨rfl, rfl, rfl, by decide +kernel, rfl, by decide +kernel, by decide +kernel⟩
theorem sc_law_bag : FnScope N_law_bag ["_law_script"] (defScope s_law_bag) := ⟨rfl, rfl, rfl, by decide +kernel, rfl, by decide +kernel, by decide +kernel⟩
theorem sc_law_draw : FnScope N_law_draw ["_law_bag_here", "_law_sides"] (defScope s_law_draw) := ⟨rfl, rfl, rfl, by decide +kernel, rfl, by decide +kernel, by decide +kernel⟩
theorem sc_law_of : FnScope N_law_of ["_law_bag_here", "_law_things"] (defScope s_law_of) := ⟨rfl, rfl, rfl, by decide +kernel, rfl, by decide +kernel, by decide +kernel⟩
theorem sc_law_same : FnScope N_law_same ["_law_found", "_law_due"] (defScope s_law_same) := ⟨rfl, rfl, rfl, by decide +kernel, rfl, by decide +kernel, by decide +kernel⟩
theorem sc_law_title : FnScope N_law_title ["_law_bag_here", "_law_taken"] (defScope s_law_title) := ⟨rfl, rfl, rfl, by decide +kernel, rfl, by decide +kernel, by decide +kernel⟩
theorem sc_law_frame : FnScope N_law_frame ["_law_bag_here", "_law_size_here", "_law_widest"] (defScope s_law_frame) := ⟨rfl, rfl, rfl, by decide +kernel, rfl, by decide +kernel, by decide +kernel⟩
theorem sc_law_row : FnScope N_law_row ["_law_bag_here", "_law_frame_here", "_law_thin"] (defScope s_law_row) := ⟨rfl, rfl, rfl, by decide +kernel, rfl, by decide +kernel, by decide +kernel⟩
theorem sc_law_once : FnScope N_law_once ["_law_things"] (defScope s_law_once) := ⟨rfl, rfl, rfl, by decide +kernel, rfl, by decide +kernel, by decide +kernel⟩
theorem sc_law_stack : FnScope N_law_stack ["_law_bag_here", "_law_frame_here", "_law_size_here"] (defScope s_law_stack) := ⟨rfl, rfl, rfl, by decide +kernel, rfl, by decide +kernel, by decide +kernel⟩
theorem sc_law_size : FnScope N_law_size ["_law_bag_here"] (defScope s_law_size) := ⟨rfl, rfl, rfl, by decide +kernel, rfl, by decide +kernel, by decide +kernel⟩
theorem sc_law_lay : FnScope N_law_lay ["_law_newer_row", "_law_older_row"] (defScope s_law_lay) := ⟨rfl, rfl, rfl, by decide +kernel, rfl, by decide +kernel, by decide +kernel⟩
theorem sc_law_lot : FnScope N_law_lot ["_law_r"] (defScope s_law_lot) := ⟨rfl, rfl, rfl, by decide +kernel, rfl, by decide +kernel, by decide +kernel⟩
theorem sc_law_join : FnScope N_law_join ["_law_x", "_law_y"] (defScope s_law_join) := ⟨rfl, rfl, rfl, by decide +kernel, rfl, by decide +kernel, by decide +kernel⟩
theorem sc_law_lots : FnScope N_law_lots ["_law_told"] (defScope s_law_lots) := ⟨rfl, rfl, rfl, by decide +kernel, rfl, by decide +kernel, by decide +kernel⟩
theorem sc_law_rows : FnScope N_law_rows ["_law_stack_here", "_law_wide", "_law_cap"] (defScope s_law_rows) := ⟨rfl, rfl, rfl, by decide +kernel, rfl, by decide +kernel, by decide +kernel⟩
theorem sc_law_fresh : FnScope N_law_fresh ["_law_s", "_law_told"] (defScope s_law_fresh) := ⟨rfl, rfl, rfl, by decide +kernel, rfl, by decide +kernel, by decide +kernel⟩
theorem sc_law_fits : FnScope N_law_fits ["_law_s", "_law_r", "_law_told"] (defScope s_law_fits) := ⟨rfl, rfl, rfl, by decide +kernel, rfl, by decide +kernel, by decide +kernel⟩
theorem sc_law_greedy : FnScope N_law_greedy ["_law_stack_here", "_law_r"] (defScope s_law_greedy) := ⟨rfl, rfl, rfl, by decide +kernel, rfl, by decide +kernel, by decide +kernel⟩
theorem sc_law_lines : FnScope N_law_lines ["_law_frame_here", "_law_stack_here", "_law_r"] (defScope s_law_lines) := ⟨rfl, rfl, rfl, by decide +kernel, rfl, by decide +kernel, by decide +kernel⟩
theorem sc_law_fillings : FnScope N_law_fillings ["_law_frame_here"] (defScope s_law_fillings) := ⟨rfl, rfl, rfl, by decide +kernel, rfl, by decide +kernel, by decide +kernel⟩
theorem sc_law_paper_so : FnScope N_law_paper_so ["_law_band", "_law_frame_here", "_law_stack_here", "_law_r", "_law_made"] (defScope s_law_paper_so) := ⟨rfl, rfl, rfl, by decide +kernel, rfl, by decide +kernel, by decide +kernel⟩
theorem sc_law : FnScope N_law ["_law_script"] (defScope s_law) := ⟨rfl, rfl, rfl, by decide +kernel, rfl, by decide +kernel, by decide +kernel⟩
theorem sc_Band___init : FnScope N_Band___init ["self", "cells", "seeds", "most"] (defScope s_Band___init) := ⟨rfl, rfl, rfl, by decide +kernel, rfl, by decide +kernel, by decide +kernel⟩
theorem sc_Band_rows : FnScope N_Band_rows ["self"] (defScope s_Band_rows) := ⟨rfl, rfl, rfl, by decide +kernel, rfl, by decide +kernel, by decide +kernel⟩
theorem sc_Band_full_rows : FnScope N_Band_full_rows ["self"] (defScope s_Band_full_rows) := ⟨rfl, rfl, rfl, by decide +kernel, rfl, by decide +kernel, by decide +kernel⟩
theorem sc_Band_lots : FnScope N_Band_lots ["self"] (defScope s_Band_lots) := ⟨rfl, rfl, rfl, by decide +kernel, rfl, by decide +kernel, by decide +kernel⟩
theorem sc_Band_come : FnScope N_Band_come ["self", "row", "seeds"] (defScope s_Band_come) := ⟨rfl, rfl, rfl, by decide +kernel, rfl, by decide +kernel, by decide +kernel⟩
theorem sc_Band___contains : FnScope N_Band___contains ["self", "x"] (defScope s_Band___contains) := ⟨rfl, rfl, rfl, by decide +kernel, rfl, by decide +kernel, by decide +kernel⟩
theorem sc_Band___len : FnScope N_Band___len ["self"] (defScope s_Band___len) := ⟨rfl, rfl, rfl, by decide +kernel, rfl, by decide +kernel, by decide +kernel⟩
theorem b_is_name {K : PySem.W.Frag} {mg : Str → Option Value} (T : Txt K mg) : Binds K T.d_is_name ["value"] [] := T.F_is_name.binds (ps := ["value"]) fun _ _ _ _ _ _ us hl => match us, hl with | [_], _ => rfl
theorem b_is_integer {K : PySem.W.Frag} {mg : Str → Option Value} (T : Txt K mg) : Binds K T.d_is_integer ["value"] [] := T.F_is_integer.binds (ps := ["value"]) fun _ _ _ _ _ _ us hl => match us, hl with | [_], _ => rfl
theorem b_is_number {K : PySem.W.Frag} {mg : Str → Option Value} (T : Txt K mg) : Binds K T.d_is_number ["value", "least", "most"] [] := T.F_is_number.binds (ps := ["value", "least", "most"]) fun _ _ _ _ _ _ us hl => match us, hl with | [_, _, _], _ => rfl
theorem b_is_cell {K : PySem.W.Frag} {mg : Str → Option Value} (T : Txt K mg) : Binds K T.d_is_cell ["value"] [] := T.F_is_cell.binds (ps := ["value"]) fun _ _ _ _ _ _ us hl => match us, hl with | [_], _ => rfl
theorem b_check_cells {K : PySem.W.Frag} {mg : Str → Option Value} (T : Txt K mg) : Binds K T.d_check_cells ["cells"] [] := T.F_check_cells.binds (ps := ["cells"]) fun _ _ _ _ _ _ us hl => match us, hl with | [_], _ => rfl
theorem b_is_row {K : PySem.W.Frag} {mg : Str → Option Value} (T : Txt K mg) : Binds K T.d_is_row ["cells", "value"] [] := T.F_is_row.binds (ps := ["cells", "value"]) fun _ _ _ _ _ _ us hl => match us, hl with | [_, _], _ => rfl
theorem b_over {K : PySem.W.Frag} {mg : Str → Option Value} (T : Txt K mg) : Binds K T.d_over ["newer", "older"] [] := T.F_over.binds (ps := ["newer", "older"]) fun _ _ _ _ _ _ us hl => match us, hl with | [_, _], _ => rfl
theorem b_lot_of {K : PySem.W.Frag} {mg : Str → Option Value} (T : Txt K mg) : Binds K T.d_lot_of ["row"] [] := T.F_lot_of.binds (ps := ["row"]) fun _ _ _ _ _ _ us hl => match us, hl with | [_], _ => rfl
theorem b_blank {K : PySem.W.Frag} {mg : Str → Option Value} (T : Txt K mg) : Binds K T.d_blank ["many"] [] := T.F_blank.binds (ps := ["many"]) fun _ _ _ _ _ _ us hl => match us, hl with | [_], _ => rfl
theorem b_union {K : PySem.W.Frag} {mg : Str → Option Value} (T : Txt K mg) : Binds K T.d_union ["one", "other"] [] := T.F_union.binds (ps := ["one", "other"]) fun _ _ _ _ _ _ us hl => match us, hl with | [_, _], _ => rfl
theorem b_lot_size {K : PySem.W.Frag} {mg : Str → Option Value} (T : Txt K mg) : Binds K T.d_lot_size ["lot"] [] := T.F_lot_size.binds (ps := ["lot"]) fun _ _ _ _ _ _ us hl => match us, hl with | [_], _ => rfl
theorem b_ordered_lots {K : PySem.W.Frag} {mg : Str → Option Value} (T : Txt K mg) : Binds K T.d_ordered_lots ["lots"] [] := T.F_ordered_lots.binds (ps := ["lots"]) fun _ _ _ _ _ _ us hl => match us, hl with | [_], _ => rfl
theorem b_outside {K : PySem.W.Frag} {mg : Str → Option Value} (T : Txt K mg) : Binds K T.d_outside ["seed", "told"] [] := T.F_outside.binds (ps := ["seed", "told"]) fun _ _ _ _ _ _ us hl => match us, hl with | [_, _], _ => rfl
theorem b_barring {K : PySem.W.Frag} {mg : Str → Option Value} (T : Txt K mg) : Binds K T.d_barring ["seed", "told", "row"] [] := T.F_barring.binds (ps := ["seed", "told", "row"]) fun _ _ _ _ _ _ us hl => match us, hl with | [_, _, _], _ => rfl
theorem b_can_be_taken {K : PySem.W.Frag} {mg : Str → Option Value} (T : Txt K mg) : Binds K T.d_can_be_taken ["seed", "told", "row"] [] := T.F_can_be_taken.binds (ps := ["seed", "told", "row"]) fun _ _ _ _ _ _ us hl => match us, hl with | [_, _, _], _ => rfl
theorem b_next_taken {K : PySem.W.Frag} {mg : Str → Option Value} (T : Txt K mg) : Binds K T.d_next_taken ["seeds", "told", "row"] [] := T.F_next_taken.binds (ps := ["seeds", "told", "row"]) fun _ _ _ _ _ _ us hl => match us, hl with | [_, _, _], _ => rfl
theorem b_taking {K : PySem.W.Frag} {mg : Str → Option Value} (T : Txt K mg) : Binds K T.d_taking ["seeds", "row"] [] := T.F_taking.binds (ps := ["seeds", "row"]) fun _ _ _ _ _ _ us hl => match us, hl with | [_, _], _ => rfl
theorem b_tellers_outside {K : PySem.W.Frag} {mg : Str → Option Value} (T : Txt K mg) : Binds K T.d_tellers_outside ["seeds", "told"] [] := T.F_tellers_outside.binds (ps := ["seeds", "told"]) fun _ _ _ _ _ _ us hl => match us, hl with | [_, _], _ => rfl
theorem b_comes_to {K : PySem.W.Frag} {mg : Str → Option Value} (T : Txt K mg) : Binds K T.d_comes_to ["seeds", "row"] [] := T.F_comes_to.binds (ps := ["seeds", "row"]) fun _ _ _ _ _ _ us hl => match us, hl with | [_, _], _ => rfl
theorem b_come {K : PySem.W.Frag} {mg : Str → Option Value} (T : Txt K mg) : Binds K T.d_come ["cells", "seeds", "row"] [] := T.F_come.binds (ps := ["cells", "seeds", "row"]) fun _ _ _ _ _ _ us hl => match us, hl with | [_, _, _], _ => rfl
theorem b_is_made {K : PySem.W.Frag} {mg : Str → Option Value} (T : Txt K mg) : Binds K T.d_is_made ["cells", "seeds", "row"] [] := T.F_is_made.binds (ps := ["cells", "seeds", "row"]) fun _ _ _ _ _ _ us hl => match us, hl with | [_, _, _], _ => rfl
theorem b_word_of {K : PySem.W.Frag} {mg : Str → Option Value} (T : Txt K mg) : Binds K T.d_word_of ["line"] [] := T.F_word_of.binds (ps := ["line"]) fun _ _ _ _ _ _ us hl => match us, hl with | [_], _ => rfl
theorem b_follow_takes {K : PySem.W.Frag} {mg : Str → Option Value} (T : Txt K mg) : Binds K T.d_follow_takes ["seeds", "row", "paper"] [] := T.F_follow_takes.binds (ps := ["seeds", "row", "paper"]) fun _ _ _ _ _ _ us hl => match us, hl with | [_, _, _], _ => rfl
theorem b_bar_holds {K : PySem.W.Frag} {mg : Str → Option Value} (T : Txt K mg) : Binds K T.d_bar_holds ["cells", "seed", "told", "row", "line"] [] := T.F_bar_holds.binds (ps := ["cells", "seed", "told", "row", "line"]) fun _ _ _ _ _ _ us hl => match us, hl with | [_, _, _, _, _], _ => rfl
theorem b_count_bars {K : PySem.W.Frag} {mg : Str → Option Value} (T : Txt K mg) : Binds K T.d_count_bars ["cells", "waiting", "told", "row", "lines"] [] := T.F_count_bars.binds (ps := ["cells", "waiting", "told", "row", "lines"]) fun _ _ _ _ _ _ us hl => match us, hl with | [_, _, _, _, _], _ => rfl
theorem b_look {K : PySem.W.Frag} {mg : Str → Option Value} (T : Txt K mg) : Binds K T.d_look ["cells", "seeds", "paper"] [] := T.F_look.binds (ps := ["cells", "seeds", "paper"]) fun _ _ _ _ _ _ us hl => match us, hl with | [_, _, _], _ => rfl
theorem b_check_seeds {K : PySem.W.Frag} {mg : Str → Option Value} (T : Txt K mg) : Binds K T.d_check_seeds ["cells", "seeds"] [] := T.F_check_seeds.binds (ps := ["cells", "seeds"]) fun _ _ _ _ _ _ us hl => match us, hl with | [_, _], _ => rfl
theorem b_check_told {K : PySem.W.Frag} {mg : Str → Option Value} (T : Txt K mg) : Binds K T.d_check_told ["cells", "rows"] [] := T.F_check_told.binds (ps := ["cells", "rows"]) fun _ _ _ _ _ _ us hl => match us, hl with | [_, _], _ => rfl
theorem b_made_rows {K : PySem.W.Frag} {mg : Str → Option Value} (T : Txt K mg) : Binds K T.d_made_rows ["many", "seeds", "most"] [] := T.F_made_rows.binds (ps := ["many", "seeds", "most"]) fun _ _ _ _ _ _ us hl => match us, hl with | [_, _, _], _ => rfl
theorem b_law_bag {K : PySem.W.Frag} {mg : Str → Option Value} (T : Txt K mg) : Binds K T.d_law_bag ["_law_script"] [] := T.F_law_bag.binds (ps := ["_law_script"]) fun _ _ _ _ _ _ us hl => match us, hl with | [_], _ => rfl
theorem b_law_draw {K : PySem.W.Frag} {mg : Str → Option Value} (T : Txt K mg) : Binds K T.d_law_draw ["_law_bag_here", "_law_sides"] [] := T.F_law_draw.binds (ps := ["_law_bag_here", "_law_sides"]) fun _ _ _ _ _ _ us hl => match us, hl with | [_, _], _ => rfl
theorem b_law_of {K : PySem.W.Frag} {mg : Str → Option Value} (T : Txt K mg) : Binds K T.d_law_of ["_law_bag_here", "_law_things"] [] := T.F_law_of.binds (ps := ["_law_bag_here", "_law_things"]) fun _ _ _ _ _ _ us hl => match us, hl with | [_, _], _ => rfl
theorem b_law_same {K : PySem.W.Frag} {mg : Str → Option Value} (T : Txt K mg) : Binds K T.d_law_same ["_law_found", "_law_due"] [] := T.F_law_same.binds (ps := ["_law_found", "_law_due"]) fun _ _ _ _ _ _ us hl => match us, hl with | [_, _], _ => rfl
theorem b_law_title {K : PySem.W.Frag} {mg : Str → Option Value} (T : Txt K mg) : Binds K T.d_law_title ["_law_bag_here", "_law_taken"] [] := T.F_law_title.binds (ps := ["_law_bag_here", "_law_taken"]) fun _ _ _ _ _ _ us hl => match us, hl with | [_, _], _ => rfl
theorem b_law_frame {K : PySem.W.Frag} {mg : Str → Option Value} (T : Txt K mg) : Binds K T.d_law_frame ["_law_bag_here", "_law_size_here", "_law_widest"] [] := T.F_law_frame.binds (ps := ["_law_bag_here", "_law_size_here", "_law_widest"]) fun _ _ _ _ _ _ us hl => match us, hl with | [_, _, _], _ => rfl
theorem b_law_once {K : PySem.W.Frag} {mg : Str → Option Value} (T : Txt K mg) : Binds K T.d_law_once ["_law_things"] [] := T.F_law_once.binds (ps := ["_law_things"]) fun _ _ _ _ _ _ us hl => match us, hl with | [_], _ => rfl
theorem b_law_stack {K : PySem.W.Frag} {mg : Str → Option Value} (T : Txt K mg) : Binds K T.d_law_stack ["_law_bag_here", "_law_frame_here", "_law_size_here"] [] := T.F_law_stack.binds (ps := ["_law_bag_here", "_law_frame_here", "_law_size_here"]) fun _ _ _ _ _ _ us hl => match us, hl with | [_, _, _], _ => rfl
theorem b_law_size {K : PySem.W.Frag} {mg : Str → Option Value} (T : Txt K mg) : Binds K T.d_law_size ["_law_bag_here"] [] := T.F_law_size.binds (ps := ["_law_bag_here"]) fun _ _ _ _ _ _ us hl => match us, hl with | [_], _ => rfl
theorem b_law_lay {K : PySem.W.Frag} {mg : Str → Option Value} (T : Txt K mg) : Binds K T.d_law_lay ["_law_newer_row", "_law_older_row"] [] := T.F_law_lay.binds (ps := ["_law_newer_row", "_law_older_row"]) fun _ _ _ _ _ _ us hl => match us, hl with | [_, _], _ => rfl
theorem b_law_lot {K : PySem.W.Frag} {mg : Str → Option Value} (T : Txt K mg) : Binds K T.d_law_lot ["_law_r"] [] := T.F_law_lot.binds (ps := ["_law_r"]) fun _ _ _ _ _ _ us hl => match us, hl with | [_], _ => rfl
theorem b_law_join {K : PySem.W.Frag} {mg : Str → Option Value} (T : Txt K mg) : Binds K T.d_law_join ["_law_x", "_law_y"] [] := T.F_law_join.binds (ps := ["_law_x", "_law_y"]) fun _ _ _ _ _ _ us hl => match us, hl with | [_, _], _ => rfl
theorem b_law_lots {K : PySem.W.Frag} {mg : Str → Option Value} (T : Txt K mg) : Binds K T.d_law_lots ["_law_told"] [] := T.F_law_lots.binds (ps := ["_law_told"]) fun _ _ _ _ _ _ us hl => match us, hl with | [_], _ => rfl
theorem b_law_rows {K : PySem.W.Frag} {mg : Str → Option Value} (T : Txt K mg) : Binds K T.d_law_rows ["_law_stack_here", "_law_wide", "_law_cap"] [] := T.F_law_rows.binds (ps := ["_law_stack_here", "_law_wide", "_law_cap"]) fun _ _ _ _ _ _ us hl => match us, hl with | [_, _, _], _ => rfl
theorem b_law_fresh {K : PySem.W.Frag} {mg : Str → Option Value} (T : Txt K mg) : Binds K T.d_law_fresh ["_law_s", "_law_told"] [] := T.F_law_fresh.binds (ps := ["_law_s", "_law_told"]) fun _ _ _ _ _ _ us hl => match us, hl with | [_, _], _ => rfl
theorem b_law_fits {K : PySem.W.Frag} {mg : Str → Option Value} (T : Txt K mg) : Binds K T.d_law_fits ["_law_s", "_law_r", "_law_told"] [] := T.F_law_fits.binds (ps := ["_law_s", "_law_r", "_law_told"]) fun _ _ _ _ _ _ us hl => match us, hl with | [_, _, _], _ => rfl
theorem b_law_greedy {K : PySem.W.Frag} {mg : Str → Option Value} (T : Txt K mg) : Binds K T.d_law_greedy ["_law_stack_here", "_law_r"] [] := T.F_law_greedy.binds (ps := ["_law_stack_here", "_law_r"]) fun _ _ _ _ _ _ us hl => match us, hl with | [_, _], _ => rfl
theorem b_law_lines {K : PySem.W.Frag} {mg : Str → Option Value} (T : Txt K mg) : Binds K T.d_law_lines ["_law_frame_here", "_law_stack_here", "_law_r"] [] := T.F_law_lines.binds (ps := ["_law_frame_here", "_law_stack_here", "_law_r"]) fun _ _ _ _ _ _ us hl => match us, hl with | [_, _, _], _ => rfl
theorem b_law_fillings {K : PySem.W.Frag} {mg : Str → Option Value} (T : Txt K mg) : Binds K T.d_law_fillings ["_law_frame_here"] [] := T.F_law_fillings.binds (ps := ["_law_frame_here"]) fun _ _ _ _ _ _ us hl => match us, hl with | [_], _ => rfl
theorem b_law_paper_so {K : PySem.W.Frag} {mg : Str → Option Value} (T : Txt K mg) : Binds K T.d_law_paper_so ["_law_band", "_law_frame_here", "_law_stack_here", "_law_r", "_law_made"] [] := T.F_law_paper_so.binds (ps := ["_law_band", "_law_frame_here", "_law_stack_here", "_law_r", "_law_made"]) fun _ _ _ _ _ _ us hl => match us, hl with | [_, _, _, _, _], _ => rfl
theorem b_law {K : PySem.W.Frag} {mg : Str → Option Value} (T : Txt K mg) : Binds K T.d_law ["_law_script"] [] := T.F_law.binds (ps := ["_law_script"]) fun _ _ _ _ _ _ us hl => match us, hl with | [_], _ => rfl
theorem b_Band_rows {K : PySem.W.Frag} {mg : Str → Option Value} (T : Txt K mg) : Binds K T.d_Band_rows ["self"] [] := T.F_Band_rows.binds (ps := ["self"]) fun _ _ _ _ _ _ us hl => match us, hl with | [_], _ => rfl
theorem b_Band_full_rows {K : PySem.W.Frag} {mg : Str → Option Value} (T : Txt K mg) : Binds K T.d_Band_full_rows ["self"] [] := T.F_Band_full_rows.binds (ps := ["self"]) fun _ _ _ _ _ _ us hl => match us, hl with | [_], _ => rfl
theorem b_Band_lots {K : PySem.W.Frag} {mg : Str → Option Value} (T : Txt K mg) : Binds K T.d_Band_lots ["self"] [] := T.F_Band_lots.binds (ps := ["self"]) fun _ _ _ _ _ _ us hl => match us, hl with | [_], _ => rfl
theorem b_Band___contains {K : PySem.W.Frag} {mg : Str → Option Value} (T : Txt K mg) : Binds K T.d_Band___contains ["self", "x"] [] := T.F_Band___contains.binds (ps := ["self", "x"]) fun _ _ _ _ _ _ us hl => match us, hl with | [_, _], _ => rfl
theorem b_Band___len {K : PySem.W.Frag} {mg : Str → Option Value} (T : Txt K mg) : Binds K T.d_Band___len ["self"] [] := T.F_Band___len.binds (ps := ["self"]) fun _ _ _ _ _ _ us hl => match us, hl with | [_], _ => rfl

end Nt

namespace Nt
open PySem PySem.Spec PyProof.Rows L2

theorem flat1 {α : Type} (l : List α) (f : α → Nat) : (l.map fun a => [f a]).flatten = l.map f := by
  induction l with
  | nil => rfl
  | cons a l ih => rw [List.map_cons, List.flatten_cons, ih]; rfl
section
variable {K : PySem.W.Frag} {ta tb te to : TE} {tt : TT} {ρ : List En}
theorem e_joinc {α : Type} {src : List α} {f : α → Nat} (h0 : ED to ρ (· = .str [])) (h : EV te ρ (· = .own (src.map fun a => .str [f a]))) (hl : src.length ≤ 100000) : ED (tM1 (rJoin K) to te) ρ (· = .str (src.map f)) := by
  have e : (src.map fun a => D.str [f a]) = (src.map fun a => [f a]).map D.str := by rw [List.map_map]; rfl
  refine EV.d1 (e_m1 h0 h.o1 fun y hy => ?_)
  subst hy
  rw [e, ← flat1]
  exact md_join (by rw [flat1, List.length_map]; exact hl)
theorem e_ifc {c : Prop} [Decidable c] {x y : D} (h : ET tt ρ (· = decide c)) (h1 : c → ED ta ρ (· = x)) (h2 : ¬ c → ED tb ρ (· = y)) : ED (tIf tt ta tb) ρ (· = if c then x else y) := by
  refine e_ifd h (fun e => ?_) (fun e => ?_)
  · have hc : c := of_decide_eq_true e.symm
    rw [if_pos hc]; exact h1 hc
  · have hc : ¬ c := of_decide_eq_false e.symm
    rw [if_neg hc]; exact h2 hc
theorem et_eqS {a b : List Nat} (ha : ED ta ρ (· = .str a)) (hb : ED tb ρ (· = .str b)) : ET (tTest (tOp (rEqU K) ta tb)) ρ (· = decide (a = b)) := et_t1 (e_opd ha hb od_eqS)
theorem et_neS {a b : List Nat} (ha : ED ta ρ (· = .str a)) (hb : ED tb ρ (· = .str b)) : ET (tTest (tOp (rNeU K) ta tb)) ρ (· = !decide (a = b)) := et_t1 (e_opd ha hb od_neS)
theorem str1 (a b : Nat) : decide ([a] = [b]) = decide (a = b) := decide_eq_decide.mpr ⟨fun h => List.cons.inj h |>.1, fun h => by rw [h]⟩
end
theorem rep46 (n : Nat) : (List.replicate n [46]).flatten = List.replicate n 46 := by
  induction n with
  | zero => rfl
  | succ n ih => rw [List.replicate_succ, List.flatten_cons, ih]; rfl
/-! ### rows as lists of codes -/
def ov (x y : List Nat) : List Nat := (x.zip y).map fun p => if p.1 = 46 then p.2 else p.1
def lotOf (x : List Nat) : List Nat := x.map fun c => if c = 46 then 46 else 43
def Rg_over (ds : List D) (P : En → Prop) : Prop := ∃ x y, ds = [.str x, .str y] ∧ x.length ≤ 1000 ∧ P (.dat (.str (ov x y)))
def Rg_lot_of (ds : List D) (P : En → Prop) : Prop := ∃ x, ds = [.str x] ∧ x.length ≤ 1000 ∧ P (.dat (.str (lotOf x)))
def Rg_blank (ds : List D) (P : En → Prop) : Prop := ∃ n : Nat, ds = [.int n] ∧ n ≤ 1000 ∧ P (.dat (.str (List.replicate n 46)))
abbrev Rg_union := Rg_over
theorem len_over (ds P) (h : Rg_over ds P) : ds.length = 2 := by obtain ⟨x, y, rfl, _⟩ := h; rfl
theorem len_union (ds P) (h : Rg_union ds P) : ds.length = 2 := by obtain ⟨x, y, rfl, _⟩ := h; rfl
theorem len_lot_of (ds P) (h : Rg_lot_of ds P) : ds.length = 1 := by obtain ⟨x, rfl, _⟩ := h; rfl
theorem len_blank (ds P) (h : Rg_blank ds P) : ds.length = 1 := by obtain ⟨x, rfl, _⟩ := h; rfl
section
variable {P : Program} {w : World} {K : PySem.W.Frag} {mg : Str → Option Value} {base : Heap}
theorem ok_over (T : Txt K mg)  : FnOk P w K mg base CX0 1 T.a_over T.d_over ["newer", "older"] (SpE Rg_over) := by
  refine T.F_over.ok sc_over (fun vs H Q E h => spE_len h len_over) (fun cdv A outer s H vs Q E hr h => ?_)
  have hu := hu64 hr
  have hvl : vs.length = 2 := spE_len h len_over
  refine ⟨_, (pss_one (ps_ret (pe_joinK (K := K) rfl pe_str (pe_lc (own := [("sign", 2), ("under", 3)]) (g := gTup K 2 (gCons (gName 2) (gCons (gName 3) gNil))) (tt := tYes) rfl sc_over.nd (pi_zipK (K := K) rfl (by rfl) T.n_zip (pa_cons (pv 0) (pa_cons (pv 1) pa_nil))) (blkOk_by (N := N_over) (sc := defScope s_over) (by decide +kernel)) (fun _ _ _ _ _ => (pg_tup rfl (pgs_cons (pg_name (i := 2) sc_over.nd rfl (Or.inl rfl)) (pgs_cons (pg_name (i := 3) sc_over.nd rfl (Or.inl rfl)) pgs_nil)))) (fun _ _ _ _ _ => pts_nil) (fun _ _ _ _ _ => (pe_ifExp (pt_cmpR (op_eqK (K := K) rfl hu) (pv 2) (pe_glob (v := .str ".") rfl T.c_DOT ⟨_, rfl⟩) (nomark _)) (pv 3) (pv 2))))))), fn_body h (by rw [hvl]; decide) (fun ds R hR hl => ?_)⟩
  obtain ⟨x, y, rfl, hx, q⟩ := hR
  refine t_ret1 (e_joinc (f := fun p : Nat × Nat => if p.1 = 46 then p.2 else p.1) (e_str rfl) (lc2_map (by decide) (iv_zipS (ea_c (e_var rfl) (ea_c (e_var rfl) ea_nil))) (by rw [List.length_zip]; omega) fun i p hp => ?_) (by rw [List.length_zip]; omega)) q
  refine (e_ifc (et_eqS (e_var rfl) (e_str (s := [46]) (by decide +kernel))) (fun _ => e_var rfl) (fun _ => e_var rfl)).is ?_
  by_cases h : p.1 = 46
  · rw [if_pos (by rw [h]), if_pos h]; rfl
  · rw [if_neg (fun z => h (List.cons.inj z).1), if_neg h]; rfl

theorem ok_lot_of (T : Txt K mg)  : FnOk P w K mg base CX0 1 T.a_lot_of T.d_lot_of ["row"] (SpE Rg_lot_of) := by
  refine T.F_lot_of.ok sc_lot_of (fun vs H Q E h => spE_len h len_lot_of) (fun cdv A outer s H vs Q E hr h => ?_)
  have hu := hu64 hr
  have hvl : vs.length = 1 := spE_len h len_lot_of
  refine ⟨_, (pss_one (ps_ret (pe_joinK (K := K) rfl pe_str (pe_lc (own := [("sign", 1)]) (g := gName 1) (tt := tYes) rfl sc_lot_of.nd (pi_str (pv 0)) (blkOk_by (N := N_lot_of) (sc := defScope s_lot_of) (by decide +kernel)) (fun _ _ _ _ _ => (pg_name (i := 1) sc_lot_of.nd rfl (Or.inl rfl))) (fun _ _ _ _ _ => pts_nil) (fun _ _ _ _ _ => (pe_ifExp (pt_cmpR (op_eqK (K := K) rfl hu) (pv 1) (pe_glob (v := .str ".") rfl T.c_DOT ⟨_, rfl⟩) (nomark _)) (pe_glob (v := .str ".") rfl T.c_DOT ⟨_, rfl⟩) (pe_glob (v := .str "+") rfl T.c_PLUS ⟨_, rfl⟩))))))), fn_body h (by rw [hvl]; decide) (fun ds R hR hl => ?_)⟩
  obtain ⟨x, rfl, hx, q⟩ := hR
  refine t_ret1 (e_joinc (f := fun c : Nat => if c = 46 then 46 else 43) (e_str rfl) (lc1_map (iv_strS (e_var rfl)) (by omega) fun i c hc => ?_) (by omega)) q
  refine (e_ifc (et_eqS (e_var rfl) (e_str (s := [46]) (by decide +kernel))) (fun _ => e_str (s := [46]) (by decide +kernel)) (fun _ => e_str (s := [43]) (by decide +kernel))).is ?_
  by_cases h : c = 46
  · rw [if_pos (by rw [h]), if_pos h]
  · rw [if_neg (fun z => h (List.cons.inj z).1), if_neg h]

theorem ok_blank (T : Txt K mg)  : FnOk P w K mg base CX0 1 T.a_blank T.d_blank ["many"] (SpE Rg_blank) := by
  refine T.F_blank.ok sc_blank (fun vs H Q E h => spE_len h len_blank) (fun cdv A outer s H vs Q E hr h => ?_)
  have hu := hu64 hr
  have hvl : vs.length = 1 := spE_len h len_blank
  refine ⟨_, (pss_one (ps_ret (pe_op op_times (pe_glob (v := .str ".") rfl T.c_DOT ⟨_, rfl⟩) (pv 0)))), fn_body h (by rw [hvl]; decide) (fun ds R hR hl => ?_)⟩
  obtain ⟨n, rfl, hn, q⟩ := hR
  refine t_ret1 ((e_opd (e_str (s := [46]) (by decide +kernel)) (e_var rfl) (od_mulS (by omega) (by omega) (by decide))).is ?_) q
  rw [Int.toNat_natCast]
  rw [rep46]

theorem ok_union (T : Txt K mg) (G_over : FnOk P w K mg base CX0 1 T.a_over T.d_over ["newer", "older"] (SpE Rg_over)) : FnOk P w K mg base CX0 2 T.a_union T.d_union ["one", "other"] (SpE Rg_union) := by
  refine T.F_union.ok sc_union (fun vs H Q E h => spE_len h len_union) (fun cdv A outer s H vs Q E hr h => ?_)
  have hu := hu64 hr
  have hvl : vs.length = 2 := spE_len h len_union
  refine ⟨_, (pss_one (ps_ret (pe_call G_over (hr.mono (by decide)) (by rfl) T.g_over T.F_over.kp (b_over T) .nil pass0 (pa_cons (pv 0) (pa_cons (pv 1) pa_nil))))), fn_body h (by rw [hvl]; decide) (fun ds R hR hl => ?_)⟩
  obtain ⟨x, y, rfl, hx, q⟩ := hR
  exact t_ret (e_call0 (R := fun e => e = .dat (.str (ov x y))) (ea_c (e_var rfl) (ea_c (e_var rfl) ea_nil)) ⟨x, y, rfl, hx, rfl⟩) fun e he => by rw [he]; exact q

end
end Nt

namespace Nt
open PySem PySem.Spec PyProof.Rows L2


/-! ### the told lot -/
def cellD (c : List Nat × Nat) : D := .tup [.str c.1, .int c.2]
def rowOk (cs : List (List Nat × Nat)) (r : List Nat) : Bool := ((r.zip cs).map fun p => decide (p.1 = 46) || decide (p.1 ∈ [48, 49, 50, 51].take p.2.2)).all id
def outP (told : List Nat) (p : Nat × Nat) : Bool := !decide (p.2 = 46) && decide (told.getD p.1 0 = 46)
def outs (s told : List Nat) : List Nat := (((List.range s.length).zip s).filter (outP told)).map Prod.fst
def bars (s told r : List Nat) : List Nat := (outs s told).filter fun i => !decide (r.getD i 0 = s.getD i 0)
def canT (s told r : List Nat) : Bool := decide ((0 : Int) < ((outs s told).length : Int)) && decide (((bars s told r).length : Int) = 0)
theorem rng_zip {s : List Nat} {i : Nat} {p : Nat × Nat} (h : ((List.range s.length).zip s)[i]? = some p) : p.1 = i ∧ s[i]? = some p.2 ∧ i < s.length := by
  obtain ⟨h1, h2⟩ := zip_get h
  have hl := (List.getElem?_eq_some_iff.mp h2).1
  rw [List.getElem?_range hl] at h1
  exact ⟨(Option.some.inj h1).symm, h2, hl⟩
theorem mem_zipr {s : List Nat} {p : Nat × Nat} : p ∈ (List.range s.length).zip s ↔ s[p.1]? = some p.2 := by
  constructor
  · intro h
    obtain ⟨i, hi⟩ := List.mem_iff_getElem?.mp h
    obtain ⟨a, b, _⟩ := rng_zip hi
    rw [a]; exact b
  · intro h
    have hl := (List.getElem?_eq_some_iff.mp h).1
    refine List.mem_iff_getElem?.mpr ⟨p.1, ?_⟩
    rw [List.getElem?_zip_eq_some]
    exact ⟨List.getElem?_range hl, h⟩
theorem mem_outs {s told : List Nat} {i : Nat} : i ∈ outs s told ↔ ∃ c, s[i]? = some c ∧ c ≠ 46 ∧ told.getD i 0 = 46 := by
  unfold outs
  rw [List.mem_map]
  constructor
  · rintro ⟨p, hp, rfl⟩
    obtain ⟨h1, h2⟩ := List.mem_filter.mp hp
    rw [mem_zipr] at h1
    unfold outP at h2
    simp only [Bool.and_eq_true, Bool.not_eq_true', decide_eq_false_iff_not, decide_eq_true_eq] at h2
    exact ⟨p.2, h1, h2.1, h2.2⟩
  · rintro ⟨c, h1, h2, h3⟩
    refine ⟨(i, c), List.mem_filter.mpr ⟨mem_zipr.mpr h1, ?_⟩, rfl⟩
    unfold outP
    simp only [Bool.and_eq_true, Bool.not_eq_true', decide_eq_false_iff_not, decide_eq_true_eq]
    exact ⟨h2, h3⟩
theorem outs_lt {s told : List Nat} {i : Nat} (h : i ∈ outs s told) : i < s.length := by
  obtain ⟨c, h, _⟩ := mem_outs.mp h
  exact (List.getElem?_eq_some_iff.mp h).1
theorem outs_len (s told : List Nat) : (outs s told).length ≤ s.length := by
  unfold outs
  rw [List.length_map]
  refine Nat.le_trans (List.length_filter_le _ _) ?_
  rw [List.length_zip, List.length_range]
  omega
inductive Run (S : List (List Nat)) (r : List Nat) : List (List Nat) → List Nat → Prop where
  | nil : Run S r [] (List.replicate r.length 46)
  | snoc {tk : List (List Nat)} {t s : List Nat} : Run S r tk t → s ∈ S → canT s t r = true → Run S r (tk ++ [s]) (ov t (lotOf s))
def Fin (S : List (List Nat)) (r t : List Nat) : Prop := ∀ s ∈ S, canT s t r = false
/-- rows of one length -/
def Len (n : Nat) (S : List (List Nat)) : Prop := ∀ s ∈ S, s.length = n
theorem ov_len (x y : List Nat) : (ov x y).length = min x.length y.length := by unfold ov; rw [List.length_map, List.length_zip]
theorem lotOf_len (x : List Nat) : (lotOf x).length = x.length := by unfold lotOf; rw [List.length_map]
theorem run_len {S : List (List Nat)} {r t : List Nat} {tk : List (List Nat)} (hS : Len r.length S) (h : Run S r tk t) : t.length = r.length := by
  induction h with
  | nil => rw [List.length_replicate]
  | snoc _ hs _ ih => rw [ov_len, lotOf_len, ih, hS _ hs, Nat.min_self]
theorem run_mem {S : List (List Nat)} {r t : List Nat} {tk : List (List Nat)} (h : Run S r tk t) : ∀ s ∈ tk, s ∈ S := by
  induction h with
  | nil => intro s h; cases h
  | snoc _ hs _ ih =>
    intro s h
    rcases List.mem_append.mp h with h | h
    · exact ih s h
    · rw [List.mem_singleton.mp h]; exact hs
/-- .. by the first seed that can be taken, each time -/
inductive FRun (S : List (List Nat)) (r : List Nat) : List (List Nat) → List Nat → Prop where
  | nil : FRun S r [] (List.replicate r.length 46)
  | snoc {tk : List (List Nat)} {t s : List Nat} : FRun S r tk t → S.find? (fun s => canT s t r) = some s → FRun S r (tk ++ [s]) (ov t (lotOf s))
theorem FRun.run {S : List (List Nat)} {r t : List Nat} {tk : List (List Nat)} (h : FRun S r tk t) : Run S r tk t := by
  induction h with
  | nil => exact .nil
  | snoc _ hf ih => exact .snoc ih (List.mem_of_find?_eq_some hf) (by simpa using List.find?_some hf)
theorem ov_get {x y : List Nat} {i a b : Nat} (h1 : x[i]? = some a) (h2 : y[i]? = some b) : (ov x y)[i]? = some (if a = 46 then b else a) := by
  unfold ov
  rw [List.getElem?_map]
  have : (x.zip y)[i]? = some (a, b) := by rw [List.getElem?_zip_eq_some]; exact ⟨h1, h2⟩
  rw [this]; rfl
theorem lot_get {x : List Nat} {i a : Nat} (h : x[i]? = some a) : (lotOf x)[i]? = some (if a = 46 then 46 else 43) := by
  unfold lotOf
  rw [List.getElem?_map, h]; rfl
theorem canT_outs {s t r : List Nat} (h : canT s t r = true) : ∃ i, i ∈ outs s t := by
  unfold canT at h
  rw [Bool.and_eq_true, decide_eq_true_eq] at h
  cases hq : outs s t with
  | nil => rw [hq] at h; simp at h
  | cons i l => exact ⟨i, List.mem_cons_self⟩
theorem bars_nil {s t r : List Nat} (h : canT s t r = true) : ∀ i ∈ outs s t, r.getD i 0 = s.getD i 0 := by
  unfold canT at h
  rw [Bool.and_eq_true, decide_eq_true_eq, decide_eq_true_eq] at h
  have hb : bars s t r = [] := by
    have : (bars s t r).length = 0 := by have := h.2; omega
    exact List.eq_nil_of_length_eq_zero this
  intro i hi
  have hn : i ∉ bars s t r := by rw [hb]; simp
  unfold bars at hn
  rw [List.mem_filter] at hn
  by_cases e : r.getD i 0 = s.getD i 0
  · exact e
  · exact absurd ⟨hi, by simpa using e⟩ hn
theorem canT_of {s t r : List Nat} (h0 : ∃ i, i ∈ outs s t) (h : ∀ i ∈ outs s t, r.getD i 0 = s.getD i 0) : canT s t r = true := by
  unfold canT
  rw [Bool.and_eq_true, decide_eq_true_eq, decide_eq_true_eq]
  obtain ⟨i, hi⟩ := h0
  have hl : 0 < (outs s t).length := List.length_pos_of_mem hi
  have hb : bars s t r = [] := by
    unfold bars
    rw [List.filter_eq_nil_iff]
    intro j hj
    rw [h j hj]
    simp
  rw [hb]
  exact ⟨by omega, rfl⟩
/-- dots of a told lot: fewer with each step -/
def dots (t : List Nat) : Nat := t.count 46
theorem count_le_of {x y : List Nat} (hl : x.length = y.length) (h : ∀ i : Nat, x[i]? = some 46 → y[i]? = some 46) : x.count 46 ≤ y.count 46 := by
  induction x generalizing y with
  | nil => simp
  | cons a x ih =>
    cases y with
    | nil => simp at hl
    | cons b y =>
      have ih' := ih (y := y) (by simpa using hl) fun i hi => by simpa using h (i + 1) (by simpa using hi)
      rw [List.count_cons, List.count_cons]
      by_cases ha : a = 46
      · have hb : b = 46 := by have := h 0 (by simp [ha]); simpa using this
        simp [ha, hb]; omega
      · have e : (a == 46) = false := by simpa using ha
        rw [e]; simp; omega
theorem count_lt_of {x y : List Nat} (hl : x.length = y.length) (h : ∀ i : Nat, x[i]? = some 46 → y[i]? = some 46) {j : Nat} (h1 : y[j]? = some 46) (h2 : x[j]? ≠ some 46) : x.count 46 < y.count 46 := by
  induction x generalizing y j with
  | nil =>
    cases y with
    | nil => simp at h1
    | cons b y => simp at hl
  | cons a x ih =>
    cases y with
    | nil => simp at hl
    | cons b y =>
      have hl' : x.length = y.length := by simpa using hl
      have h' : ∀ i : Nat, x[i]? = some 46 → y[i]? = some 46 := fun i hi => by simpa using h (i + 1) (by simpa using hi)
      have le := count_le_of hl' h'
      rw [List.count_cons, List.count_cons]
      cases j with
      | zero =>
        have hb : b = 46 := by simpa using h1
        have ha : (a == 46) = false := by simpa using h2
        rw [ha]; simp [hb]; omega
      | succ j =>
        have lt := ih (y := y) hl' h' (j := j) (by simpa using h1) (by simpa using h2)
        by_cases ha : a = 46
        · have hb : b = 46 := by have := h 0 (by simp [ha]); simpa using this
          simp [ha, hb]; omega
        · have e : (a == 46) = false := by simpa using ha
          rw [e]; simp; omega
theorem getD_of {l : List Nat} {i a : Nat} (h : l[i]? = some a) : l.getD i 0 = a := by rw [List.getD_eq_getElem?_getD, h]; rfl
theorem get_of_lt {l : List Nat} {i : Nat} (h : i < l.length) : l[i]? = some (l.getD i 0) := by rw [List.getD_eq_getElem?_getD, List.getElem?_eq_getElem h]; rfl
theorem ov_lot_dots {s t r : List Nat} (hl : s.length = t.length) (h : canT s t r = true) : dots (ov t (lotOf s)) < dots t := by
  obtain ⟨i, hi⟩ := canT_outs h
  obtain ⟨c, h1, h2, h3⟩ := mem_outs.mp hi
  have hlen : (ov t (lotOf s)).length = t.length := by rw [ov_len, lotOf_len, hl, Nat.min_self]
  have hs := (List.getElem?_eq_some_iff.mp h1).1
  have ht : t[i]? = some 46 := by rw [get_of_lt (by omega), h3]
  refine count_lt_of hlen (fun j hj => ?_) ht ?_
  · have hjl := (List.getElem?_eq_some_iff.mp hj).1
    have a1 := get_of_lt (l := t) (i := j) (by omega)
    have a2 := lot_get (get_of_lt (l := s) (i := j) (by omega))
    rw [ov_get a1 a2] at hj
    by_cases e : t.getD j 0 = 46
    · rw [a1, e]
    · rw [if_neg e] at hj
      exact absurd (Option.some.inj hj) e
  · have a2 := lot_get h1
    rw [ov_get ht a2, if_pos rfl, if_neg h2]
    simp


def Rg_is_row (ds : List D) (P : En → Prop) : Prop := ∃ (xc : D) (cs : List (List Nat × Nat)) (r : List Nat), ds = [xc, .str r] ∧ Sq xc (cs.map cellD) ∧ r.length = cs.length ∧ cs.length ≤ 20 ∧ (∀ c ∈ cs, c.2 ≤ 4) ∧ P (.dat (.bl (rowOk cs r)))
def Rg_outside (ds : List D) (P : En → Prop) : Prop := ∃ s t : List Nat, ds = [.str s, .str t] ∧ s.length = t.length ∧ s.length ≤ 1000 ∧ P (.own ((outs s t).map fun (i : Nat) => .int i))
def Rg_barring (ds : List D) (P : En → Prop) : Prop := ∃ s t r : List Nat, ds = [.str s, .str t, .str r] ∧ s.length = t.length ∧ s.length = r.length ∧ s.length ≤ 1000 ∧ P (.own ((bars s t r).map fun (i : Nat) => .int i))
def Rg_can_be_taken (ds : List D) (P : En → Prop) : Prop := ∃ s t r : List Nat, ds = [.str s, .str t, .str r] ∧ s.length = t.length ∧ s.length = r.length ∧ s.length ≤ 1000 ∧ P (.dat (.bl (canT s t r)))
def nextD (S : List (List Nat)) (t r : List Nat) : D := match S.find? (fun s => canT s t r) with | some s => .str s | none => .non
def Rg_next_taken (ds : List D) (P : En → Prop) : Prop := ∃ (xs : D) (S : List (List Nat)) (t r : List Nat), ds = [xs, .str t, .str r] ∧ Sq xs (S.map D.str) ∧ S.length ≤ 1000 ∧ Len r.length S ∧ t.length = r.length ∧ r.length ≤ 1000 ∧ P (.dat (nextD S t r))
def Rg_taking (ds : List D) (P : En → Prop) : Prop := ∃ (xs : D) (S : List (List Nat)) (r : List Nat), ds = [xs, .str r] ∧ Sq xs (S.map D.str) ∧ S.length ≤ 1000 ∧ Len r.length S ∧ r.length ≤ 1000 ∧ ∀ tk t, FRun S r tk t → Fin S r t → P (.dat (.tup [.lst (tk.map .str), .str t]))
def Rg_tellers_outside (ds : List D) (P : En → Prop) : Prop := ∃ (xs : D) (S : List (List Nat)) (t : List Nat), ds = [xs, .str t] ∧ Sq xs (S.map D.str) ∧ S.length ≤ 1000 ∧ Len t.length S ∧ t.length ≤ 1000 ∧ P (.own ((S.filter fun s => decide ((0 : Int) < ((outs s t).length : Int))).map .str))
def Rg_comes_to (ds : List D) (P : En → Prop) : Prop := ∃ (xs : D) (S : List (List Nat)) (r : List Nat), ds = [xs, .str r] ∧ Sq xs (S.map D.str) ∧ S.length ≤ 1000 ∧ Len r.length S ∧ r.length ≤ 1000 ∧ ∀ tk t, FRun S r tk t → Fin S r t → P (.dat (.bl (decide (t = lotOf r))))
/-- cells and a row of them -/
def CR (cs : List (List Nat × Nat)) (r : List Nat) : Prop := r.length = cs.length ∧ cs.length ≤ 20 ∧ (∀ c ∈ cs, c.2 ≤ 4) ∧ rowOk cs r = true
def Rg_told_lot (ds : List D) (P : En → Prop) : Prop := ∃ (xc xs : D) (cs : List (List Nat × Nat)) (S : List (List Nat)) (r : List Nat), ds = [xc, xs, .str r] ∧ Sq xc (cs.map cellD) ∧ Sq xs (S.map D.str) ∧ CR cs r ∧ S.length ≤ 1000 ∧ Len r.length S ∧ ∀ tk t, FRun S r tk t → Fin S r t → P (.dat (.str t))
def Rg_is_made (ds : List D) (P : En → Prop) : Prop := ∃ (xc xs : D) (cs : List (List Nat × Nat)) (S : List (List Nat)) (r : List Nat), ds = [xc, xs, .str r] ∧ Sq xc (cs.map cellD) ∧ Sq xs (S.map D.str) ∧ CR cs r ∧ S.length ≤ 1000 ∧ Len r.length S ∧ ∀ tk t, FRun S r tk t → Fin S r t → P (.dat (.bl (decide (t = lotOf r))))

theorem len_is_row (ds P) (h : Rg_is_row ds P) : ds.length = 2 := by unfold Rg_is_row at h; (first | (obtain ⟨_, _, rfl, _⟩ := h; rfl) | (obtain ⟨_, _, _, rfl, _⟩ := h; rfl) | (obtain ⟨_, _, _, _, rfl, _⟩ := h; rfl) | (obtain ⟨_, _, _, _, _, rfl, _⟩ := h; rfl))
theorem len_outside (ds P) (h : Rg_outside ds P) : ds.length = 2 := by unfold Rg_outside at h; (first | (obtain ⟨_, _, rfl, _⟩ := h; rfl) | (obtain ⟨_, _, _, rfl, _⟩ := h; rfl) | (obtain ⟨_, _, _, _, rfl, _⟩ := h; rfl) | (obtain ⟨_, _, _, _, _, rfl, _⟩ := h; rfl))
theorem len_barring (ds P) (h : Rg_barring ds P) : ds.length = 3 := by unfold Rg_barring at h; (first | (obtain ⟨_, _, rfl, _⟩ := h; rfl) | (obtain ⟨_, _, _, rfl, _⟩ := h; rfl) | (obtain ⟨_, _, _, _, rfl, _⟩ := h; rfl) | (obtain ⟨_, _, _, _, _, rfl, _⟩ := h; rfl))
theorem len_can_be_taken (ds P) (h : Rg_can_be_taken ds P) : ds.length = 3 := by unfold Rg_can_be_taken at h; (first | (obtain ⟨_, _, rfl, _⟩ := h; rfl) | (obtain ⟨_, _, _, rfl, _⟩ := h; rfl) | (obtain ⟨_, _, _, _, rfl, _⟩ := h; rfl) | (obtain ⟨_, _, _, _, _, rfl, _⟩ := h; rfl))
theorem len_next_taken (ds P) (h : Rg_next_taken ds P) : ds.length = 3 := by unfold Rg_next_taken at h; (first | (obtain ⟨_, _, rfl, _⟩ := h; rfl) | (obtain ⟨_, _, _, rfl, _⟩ := h; rfl) | (obtain ⟨_, _, _, _, rfl, _⟩ := h; rfl) | (obtain ⟨_, _, _, _, _, rfl, _⟩ := h; rfl))
theorem len_taking (ds P) (h : Rg_taking ds P) : ds.length = 2 := by unfold Rg_taking at h; (first | (obtain ⟨_, _, rfl, _⟩ := h; rfl) | (obtain ⟨_, _, _, rfl, _⟩ := h; rfl) | (obtain ⟨_, _, _, _, rfl, _⟩ := h; rfl) | (obtain ⟨_, _, _, _, _, rfl, _⟩ := h; rfl))
theorem len_tellers_outside (ds P) (h : Rg_tellers_outside ds P) : ds.length = 2 := by unfold Rg_tellers_outside at h; (first | (obtain ⟨_, _, rfl, _⟩ := h; rfl) | (obtain ⟨_, _, _, rfl, _⟩ := h; rfl) | (obtain ⟨_, _, _, _, rfl, _⟩ := h; rfl) | (obtain ⟨_, _, _, _, _, rfl, _⟩ := h; rfl))
theorem len_comes_to (ds P) (h : Rg_comes_to ds P) : ds.length = 2 := by unfold Rg_comes_to at h; (first | (obtain ⟨_, _, rfl, _⟩ := h; rfl) | (obtain ⟨_, _, _, rfl, _⟩ := h; rfl) | (obtain ⟨_, _, _, _, rfl, _⟩ := h; rfl) | (obtain ⟨_, _, _, _, _, rfl, _⟩ := h; rfl))
theorem len_told_lot (ds P) (h : Rg_told_lot ds P) : ds.length = 3 := by unfold Rg_told_lot at h; (first | (obtain ⟨_, _, rfl, _⟩ := h; rfl) | (obtain ⟨_, _, _, rfl, _⟩ := h; rfl) | (obtain ⟨_, _, _, _, rfl, _⟩ := h; rfl) | (obtain ⟨_, _, _, _, _, rfl, _⟩ := h; rfl))
theorem len_is_made (ds P) (h : Rg_is_made ds P) : ds.length = 3 := by unfold Rg_is_made at h; (first | (obtain ⟨_, _, rfl, _⟩ := h; rfl) | (obtain ⟨_, _, _, rfl, _⟩ := h; rfl) | (obtain ⟨_, _, _, _, rfl, _⟩ := h; rfl) | (obtain ⟨_, _, _, _, _, rfl, _⟩ := h; rfl))
section
variable {P : Program} {w : World} {K : PySem.W.Frag} {mg : Str → Option Value} {base : Heap}
theorem ok_is_row (T : Txt K mg)  : FnOk P w K mg base CX0 1 T.a_is_row T.d_is_row ["cells", "value"] (SpE Rg_is_row) := by
  refine T.F_is_row.ok sc_is_row (fun vs H Q E h => spE_len h len_is_row) (fun cdv A outer s H vs Q E hr h => ?_)
  have hu := hu64 hr
  have hvl : vs.length = 2 := spE_len h len_is_row
  refine ⟨_, (pss_cons (ps_if (PW.pt (pw_or (pt_not (pt_val (pe_callB (call_isiK1 (K := K) rfl) (by rfl) T.n_isinstance (by decide +kernel) (pa_cons (pv 1) (pa_cons (pe_bltn (v := .ty "str") (by rfl) T.n_str (by decide +kernel) rfl) pa_nil))))) (pw_or1 (pt_cmpR (op_neK (K := K) rfl hu) (pe_callB (call_lenK (K := K) rfl) (by rfl) T.n_len (by decide +kernel) (pa_cons (pv 1) pa_nil)) (pe_callB (call_lenK (K := K) rfl) (by rfl) T.n_len (by decide +kernel) (pa_cons (pv 0) pa_nil)) (nomark _))))) (pss_one (ps_ret pe_bl)) pss_nil) (pss_one (ps_ret (pe_callB (call_allK (K := K) rfl rfl) (by rfl) T.n_all (by decide +kernel) (pa_cons (pe_lc (own := [("sign", 2), ("cell", 3)]) (g := gTup K 2 (gCons (gName 2) (gCons (gName 3) gNil))) (tt := tYes) rfl sc_is_row.nd (pi_zipK (K := K) rfl (by rfl) T.n_zip (pa_cons (pv 1) (pa_cons (pv 0) pa_nil))) (blkOk_by (N := N_is_row) (sc := defScope s_is_row) (by decide +kernel)) (fun _ _ _ _ _ => (pg_tup rfl (pgs_cons (pg_name (i := 2) sc_is_row.nd rfl (Or.inl rfl)) (pgs_cons (pg_name (i := 3) sc_is_row.nd rfl (Or.inl rfl)) pgs_nil)))) (fun _ _ _ _ _ => pts_nil) (fun _ _ _ _ _ => (pe_or (pe_cmpR (op_eqK (K := K) rfl hu) (pv 2) (pe_glob (v := .str ".") rfl T.c_DOT ⟨_, rfl⟩) (nomark _)) (pe_one (pe_cmpR (op_inK (K := K) rfl) (pv 2) (pe_slice (sl_K (K := K) rfl) (pe_glob (v := .str "0123") rfl T.c_DIGITS ⟨_, rfl⟩) po_none (po_some (pe_ix (ix_K (K := K) rfl) (pv 3) pe_int (fun _ _ => rfl)))) (by rfl)))))) pa_nil))))), fn_body h (by rw [hvl]; decide) (fun ds R hR hl => ?_)⟩
  obtain ⟨xc, cs, r, rfl, qc, h1, h2, h3, q⟩ := hR
  refine q_if1 (b := false) ((et_or1 (et_not1 (et_v1 (e_isi (d := .str r) (T := "str") (b := true) (e_var rfl) rfl (show kitB "str" "str" = some true by decide +kernel)))) (fun _ => et_t1 (e_opd (EV.d1 (e_cb1 (ea_c (e_var rfl) ea_nil) (cd_lenS (by omega)))) (EV.d1 (e_cb1 (ea_c (e_var rfl) ea_nil) (cd_lenSq qc))) od_neI))).is (by simp [h1])) (fun e => by cases e) (fun _ => ?_)
  have e2 : (chs r).zip (cs.map cellD) = (r.zip cs).map fun p => (D.str [p.1], cellD p.2) := by
    unfold chs
    rw [List.zip_map]; rfl
  have iv := iv_zip (K := K) (ρ := [.dat xc, .dat (.str r), .un, .un]) (.str r) qc.its (ea_c (e_var (i := 1) rfl) (ea_c (e_var (i := 0) rfl) ea_nil))
  rw [e2] at iv
  refine t_ret1 (d := .bl (rowOk cs r)) (EV.d1 (e_cb1 (ea_c (EV.o1 ((lc2_map (f := fun (p : Nat × (List Nat × Nat)) => D.bl (decide (p.1 = 46) || decide (p.1 ∈ [48, 49, 50, 51].take p.2.2))) (by decide) iv (by rw [List.length_zip]; omega) fun i p hp => ?_).imp fun e he => ?_)) ea_nil) (cd_all (bs := (r.zip cs).map fun (p : Nat × (List Nat × Nat)) => decide (p.1 = 46) || decide (p.1 ∈ [48, 49, 50, 51].take p.2.2))))) q
  · have hm : p.2.2 ≤ 4 := h3 _ (List.mem_of_getElem? (zip_get hp).2)
    rw [← str1 p.1 46]
    refine e_or (e_opd (e_var rfl) (e_str (s := [46]) (by decide +kernel)) od_eqS) fun _ => ?_
    rw [← cut_to (xs := [48, 49, 50, 51]) (i := (p.2.2 : Int)) rfl hm]
    exact e_opd (e_var rfl) (EV.d1 (e_sl (e_str (s := [48, 49, 50, 51]) (by decide +kernel)) eo_none (eo_part (e_opd (e_var rfl) e_int (od_ixT (j := 1) rfl rfl))) (sd_str (by decide)))) od_sgn
  · rw [he, List.map_map]; rfl

theorem ok_outside (T : Txt K mg)  : FnOk P w K mg base CX0 1 T.a_outside T.d_outside ["seed", "told"] (SpE Rg_outside) := by
  refine T.F_outside.ok sc_outside (fun vs H Q E h => spE_len h len_outside) (fun cdv A outer s H vs Q E hr h => ?_)
  have hu := hu64 hr
  have hvl : vs.length = 2 := spE_len h len_outside
  refine ⟨_, (pss_one (ps_ret (pe_lc (own := [("at", 2), ("sign", 3)]) (g := gTup K 2 (gCons (gName 2) (gCons (gName 3) gNil))) (tt := _) rfl sc_outside.nd (pi_enumS (by rfl) T.n_enumerate (pa_cons (pv 0) pa_nil)) (blkOk_by (N := N_outside) (sc := defScope s_outside) (by decide +kernel)) (fun _ _ _ _ _ => (pg_tup rfl (pgs_cons (pg_name (i := 2) sc_outside.nd rfl (Or.inl rfl)) (pgs_cons (pg_name (i := 3) sc_outside.nd rfl (Or.inl rfl)) pgs_nil)))) (fun _ _ _ _ _ => (pts_one (PW.pt (pw_and (pt_cmpR (op_neK (K := K) rfl hu) (pv 3) pe_str (nomark _)) (pw_and1 (pt_cmpR (op_eqK (K := K) rfl hu) (pe_ix (ix_K (K := K) rfl) (pv 1) (pv 2) (fun _ _ => rfl)) pe_str (nomark _))))))) (fun _ _ _ _ _ => (pv 2))))), fn_body h (by rw [hvl]; decide) (fun ds R hR hl => ?_)⟩
  obtain ⟨s, t, rfl, h1, h2, q⟩ := hR
  refine t_ret (P := fun e => e = .own ((outs s t).map fun (i : Nat) => .int i)) ((lc2_filt (t := outP t) (f := fun p => .int p.1) (by decide) (iv_enumZ (ea_c (e_var rfl) ea_nil)) (by rw [List.length_zip]; omega) (fun i p hp => ?_) (fun i p hp _ => e_var rfl)).imp fun e he => ?_) fun e he => by rw [he]; exact q
  · obtain ⟨a, b, c⟩ := rng_zip hp
    have h3 : t[p.1]? = some (t.getD p.1 0) := get_of_lt (by omega)
    refine (et_and1 (et_neS (e_var rfl) (e_str (s := [46]) (by decide +kernel))) (fun _ => et_eqS (e_opd (e_var rfl) (e_var rfl) (od_ixS (j := p.1) rfl h3 (by omega))) (e_str (s := [46]) (by decide +kernel)))).is ?_
    rw [str1, str1]; rfl
  · rw [he]; unfold outs; rw [List.map_map]; rfl

theorem ok_barring (T : Txt K mg) (G_outside : FnOk P w K mg base CX0 1 T.a_outside T.d_outside ["seed", "told"] (SpE Rg_outside)) : FnOk P w K mg base CX0 2 T.a_barring T.d_barring ["seed", "told", "row"] (SpE Rg_barring) := by
  refine T.F_barring.ok sc_barring (fun vs H Q E h => spE_len h len_barring) (fun cdv A outer s H vs Q E hr h => ?_)
  have hu := hu64 hr
  have hvl : vs.length = 3 := spE_len h len_barring
  refine ⟨_, (pss_one (ps_ret (pe_lc (own := [("at", 3)]) (g := gName 3) (tt := _) rfl sc_barring.nd (pi_listK (K := K) rfl (pe_call G_outside (hr.mono (by decide)) (by rfl) T.g_outside T.F_outside.kp (b_outside T) .nil pass0 (pa_cons (pv 0) (pa_cons (pv 1) pa_nil)))) (blkOk_by (N := N_barring) (sc := defScope s_barring) (by decide +kernel)) (fun _ _ _ _ _ => (pg_name (i := 3) sc_barring.nd rfl (Or.inl rfl))) (fun _ _ _ _ _ => (pts_one (pt_cmpR (op_neK (K := K) rfl hu) (pe_ix (ix_K (K := K) rfl) (pv 2) (pv 3) (fun _ _ => rfl)) (pe_ix (ix_K (K := K) rfl) (pv 0) (pv 3) (fun _ _ => rfl)) (nomark _)))) (fun _ _ _ _ _ => (pv 3))))), fn_body h (by rw [hvl]; decide) (fun ds R hR hl => ?_)⟩
  obtain ⟨s, t, r, rfl, h1, h2, h3, q⟩ := hR
  refine t_ret (P := fun e => e = .own ((bars s t r).map fun (i : Nat) => .int i)) ((lc1_filt (t := fun i => !decide (r.getD i 0 = s.getD i 0)) (emb := fun (i : Nat) => D.int i) (f := fun i => .int i) (iv_list1 (EV.o1 (e_call0 (R := fun e => e = .own ((outs s t).map fun (i : Nat) => .int i)) (ea_c (e_var rfl) (ea_c (e_var rfl) ea_nil)) ⟨s, t, rfl, h1, h3, rfl⟩))) (by have := outs_len s t; omega) (fun i p hp => ?_) (fun i p hp _ => e_var rfl)).imp fun e he => he) fun e he => by rw [he]; exact q
  have hl := outs_lt (List.mem_of_getElem? hp)
  have h4 : r[p]? = some (r.getD p 0) := get_of_lt (by omega)
  have h5 : s[p]? = some (s.getD p 0) := get_of_lt (by omega)
  refine (et_neS (e_opd (e_var rfl) (e_var rfl) (od_ixS (j := p) rfl h4 (by omega))) (e_opd (e_var rfl) (e_var rfl) (od_ixS (j := p) rfl h5 (by omega)))).is ?_
  rw [str1]

theorem ok_can_be_taken (T : Txt K mg) (G_outside : FnOk P w K mg base CX0 1 T.a_outside T.d_outside ["seed", "told"] (SpE Rg_outside)) (G_barring : FnOk P w K mg base CX0 2 T.a_barring T.d_barring ["seed", "told", "row"] (SpE Rg_barring)) : FnOk P w K mg base CX0 3 T.a_can_be_taken T.d_can_be_taken ["seed", "told", "row"] (SpE Rg_can_be_taken) := by
  refine T.F_can_be_taken.ok sc_can_be_taken (fun vs H Q E h => spE_len h len_can_be_taken) (fun cdv A outer s H vs Q E hr h => ?_)
  have hu := hu64 hr
  have hvl : vs.length = 3 := spE_len h len_can_be_taken
  refine ⟨_, (pss_one (ps_ret (pe_and (pe_cmpR op_gt (pe_callB (call_lenK (K := K) rfl) (by rfl) T.n_len (by decide +kernel) (pa_cons (pe_call G_outside (hr.mono (by decide)) (by rfl) T.g_outside T.F_outside.kp (b_outside T) .nil pass0 (pa_cons (pv 0) (pa_cons (pv 1) pa_nil))) pa_nil)) pe_int (nomark _)) (pe_one (pe_cmpR (op_eqK (K := K) rfl hu) (pe_callB (call_lenK (K := K) rfl) (by rfl) T.n_len (by decide +kernel) (pa_cons (pe_call G_barring (hr.mono (by decide)) (by rfl) T.g_barring T.F_barring.kp (b_barring T) .nil pass0 (pa_cons (pv 0) (pa_cons (pv 1) (pa_cons (pv 2) pa_nil)))) pa_nil)) pe_int (nomark _)))))), fn_body h (by rw [hvl]; decide) (fun ds R hR hl => ?_)⟩
  obtain ⟨s, t, r, rfl, h1, h2, h3, q⟩ := hR
  refine t_ret1 (e_and (e_opd (EV.d1 (e_cb1 (ea_c (EV.o1 (e_call0 (R := fun e => e = .own ((outs s t).map fun (i : Nat) => .int i)) (ea_c (e_var rfl) (ea_c (e_var rfl) ea_nil)) ⟨s, t, rfl, h1, h3, rfl⟩)) ea_nil) cd_lenL)) e_int od_gt) fun _ => e_opd (EV.d1 (e_cb1 (ea_c (EV.o1 (e_call0 (R := fun e => e = .own ((bars s t r).map fun (i : Nat) => .int i)) (ea_c (e_var rfl) (ea_c (e_var rfl) (ea_c (e_var rfl) ea_nil))) ⟨s, t, r, rfl, h1, h2, h3, rfl⟩)) ea_nil) cd_lenL)) e_int od_eqI) ?_
  rw [List.length_map, List.length_map]
  exact q

theorem ok_next_taken (T : Txt K mg) (G_can_be_taken : FnOk P w K mg base CX0 3 T.a_can_be_taken T.d_can_be_taken ["seed", "told", "row"] (SpE Rg_can_be_taken)) : FnOk P w K mg base CX0 4 T.a_next_taken T.d_next_taken ["seeds", "told", "row"] (SpE Rg_next_taken) := by
  refine T.F_next_taken.ok sc_next_taken (fun vs H Q E h => spE_len h len_next_taken) (fun cdv A outer s H vs Q E hr h => ?_)
  have hu := hu64 hr
  have hvl : vs.length = 3 := spE_len h len_next_taken
  refine ⟨_, (pss_cons (ps_for PassesOwn.never rfl (pi_listK (K := K) rfl (pv 0)) (pg_name (i := 3) sc_next_taken.nd rfl (Or.inl rfl)) (pss_one (ps_if (pt_val (pe_call G_can_be_taken (hr.mono (by decide)) (by rfl) T.g_can_be_taken T.F_can_be_taken.kp (b_can_be_taken T) .nil pass0 (pa_cons (pv 3) (pa_cons (pv 1) (pa_cons (pv 2) pa_nil))))) (pss_one (ps_ret (pv 3))) pss_nil))) (pss_one (ps_ret pe_non))), fn_body h (by rw [hvl]; decide) (fun ds R hR hl => ?_)⟩
  obtain ⟨xs, S, t, r, rfl, qs, h1, h2, h3, h4, q⟩ := hR
  refine t_seq (M := fun ρ' => ∃ e, ρ' = [.dat (xs), .dat (.str t), .dat (.str r), e] ∧ ∀ s ∈ S, canT s t r = false) (t_for1 (iv_sq qs (e_var rfl)) (fun ds i ρ' => ∃ e, ρ' = [.dat (xs), .dat (.str t), .dat (.str r), e] ∧ ∀ s ∈ S.take i, canT s t r = false) (fun ds e => ⟨.un, rfl, by simp⟩) (fun ds i d ρ' e hd inv => ?_) (fun ds ρ' e ⟨x, a, b⟩ => ⟨x, a, by rw [e, List.length_map, List.take_length] at b; exact b⟩)) fun ρ' m => ?_
  · subst e
    obtain ⟨x, rfl, hn⟩ := inv
    obtain ⟨s, hs, rfl⟩ := map_get hd
    have hm := List.mem_of_getElem? hs
    refine t_if (T := fun b => b = canT s t r) (et_v1 (EV.d1 (e_call0 (R := fun e => e = .dat (.bl (canT s t r))) (ea_c (e_var rfl) (ea_c (e_var rfl) (ea_c (e_var rfl) ea_nil))) ⟨s, t, r, rfl, by rw [h2 s hm, h3], h2 s hm, by rw [h2 s hm]; exact h4, rfl⟩))) (fun e => ?_) (fun e => ?_)
    · refine t_ret1 (e_var rfl) ?_
      have hf : S.find? (fun s => canT s t r) = some s := by
        rw [List.find?_eq_some_iff_getElem]
        obtain ⟨hl, hg⟩ := List.getElem?_eq_some_iff.mp hs
        exact ⟨e.symm, i, hl, hg, fun j hj => by
          have : S[j] ∈ S.take i := by rw [List.mem_iff_getElem?]; exact ⟨j, by rw [List.getElem?_take_of_lt hj]; exact List.getElem?_eq_getElem _⟩
          simp [hn _ this]⟩
      have hq : nextD S t r = .str s := by unfold nextD; rw [hf]
      rw [hq] at q
      exact q
    · refine t_next ⟨.dat (.str s), rfl, fun x hx => ?_⟩
      rw [take_step hs, List.mem_append] at hx
      rcases hx with hx | hx
      · exact hn x hx
      · rw [List.mem_singleton.mp hx]; exact e.symm
  · obtain ⟨x, rfl, hn⟩ := m
    refine t_ret1 e_non ?_
    have hf : S.find? (fun s => canT s t r) = none := by
      rw [List.find?_eq_none]
      intro s hs
      simp [hn s hs]
    have hq : nextD S t r = .non := by unfold nextD; rw [hf]
    rw [hq] at q
    exact q

end
end Nt

namespace Nt
open PySem PySem.Spec PyProof.Rows L2


theorem nextD_cases (S : List (List Nat)) (t r : List Nat) : (∃ s, nextD S t r = .str s ∧ s ∈ S ∧ canT s t r = true) ∨ (nextD S t r = .non ∧ Fin S r t) := by
  cases h : S.find? (fun s => canT s t r) with
  | none =>
    refine .inr ⟨by unfold nextD; rw [h], fun s hs => ?_⟩
    rw [List.find?_eq_none] at h
    simpa using h s hs
  | some s => exact .inl ⟨s, by unfold nextD; rw [h], List.mem_of_find?_eq_some h, by simpa using List.find?_some h⟩
theorem nextD_find {S : List (List Nat)} {t r s : List Nat} (h : nextD S t r = .str s) : S.find? (fun s => canT s t r) = some s := by
  unfold nextD at h
  cases e : S.find? (fun s => canT s t r) with
  | none => rw [e] at h; cases h
  | some z => rw [e] at h; cases h; rfl
theorem dots_rep (n : Nat) : dots (List.replicate n 46) = n := by unfold dots; rw [List.count_replicate_self]
theorem run_dots {S : List (List Nat)} {r t : List Nat} {tk : List (List Nat)} (hS : Len r.length S) (h : Run S r tk t) : tk.length + dots t ≤ r.length := by
  induction h with
  | nil => rw [dots_rep]; simp
  | @snoc tk t s h1 hs hc ih =>
    have := ov_lot_dots (by rw [hS s hs, run_len hS h1]) hc
    rw [List.length_append]
    simp
    omega
/-- the lines of a paper -/
def lRow (r : List Nat) : D := .tup [.str [114, 111, 119], .str r]
def lTake (s : List Nat) : D := .tup [.str [116, 97, 107, 101], .str s]
def lMade : D := .tup [.str [109, 97, 100, 101]]
def lBarred : D := .tup [.str [98, 97, 114, 114, 101, 100]]
def isBar (d : D) : Prop := ∃ a b c, d = .tup [a, b, c]
/-- a bar line names the first cell that bars -/
def barOf (cs : List (List Nat × Nat)) (r t s : List Nat) : D := .tup [.str [98, 97, 114], .str s, .str (cs.getD ((bars s t r).headD 0) ([], 0)).1]
def waitS (S : List (List Nat)) (t : List Nat) : List (List Nat) := S.filter fun s => decide ((0 : Int) < ((outs s t).length : Int))
/-- the lines of the paper -/
def linesD (cs : List (List Nat × Nat)) (S : List (List Nat)) (r : List Nat) (tk : List (List Nat)) (t : List Nat) : List D :=
  if t = lotOf r then lRow r :: tk.map lTake ++ [lMade] else lRow r :: tk.map lTake ++ (waitS S t).map (barOf cs r t) ++ [lBarred]
def Rg_come (ds : List D) (P : En → Prop) : Prop := ∃ (xc xs : D) (cs : List (List Nat × Nat)) (S : List (List Nat)) (r : List Nat), ds = [xc, xs, .str r] ∧ Sq xc (cs.map cellD) ∧ Sq xs (S.map D.str) ∧ CR cs r ∧ S.length ≤ 1000 ∧ Len r.length S ∧
  ∀ tk t, FRun S r tk t → Fin S r t → P (.own (linesD cs S r tk t))
theorem len_come (ds P) (h : Rg_come ds P) : ds.length = 3 := by unfold Rg_come at h; obtain ⟨_, _, _, _, _, rfl, _⟩ := h; rfl
section
variable {P : Program} {w : World} {K : PySem.W.Frag} {mg : Str → Option Value} {base : Heap}
/-- a call of taking, unpacked -/
theorem t_taking {i j : Nat} {te : TE} {ρ : List En} {p : Ps} {S : List (List Nat)} {r : List Nat} (h : EV te ρ (fun e => ∃ tk t, e = .dat (.tup [.lst (tk.map .str), .str t]) ∧ FRun S r tk t ∧ Fin S r t))
    (k : ∀ tk t, FRun S r tk t → Fin S r t → p.N ((ρ.set i (.dat (.lst (tk.map .str)))).set j (.dat (.str t)))) : TT' (tAsg te (gTup K 2 (gCons (gName i) (gCons (gName j) gNil)))) ρ p :=
  t_unp (Q2 := fun x y => ∃ tk t, x = .lst (tk.map .str) ∧ y = .str t ∧ FRun S r tk t ∧ Fin S r t) (h.ed fun e ⟨tk, t, e1, h1, h2⟩ => ⟨.tup [.lst (tk.map .str), .str t], by rw [e1]; rfl, _, _, rfl, tk, t, rfl, rfl, h1, h2⟩) fun x y ⟨tk, t, e1, e2, h1, h2⟩ => by rw [e1, e2]; exact k tk t h1 h2
/-- paper.extend(xs) -/
theorem t_ext {i : Nat} {ds es : List D} {te : TE} {ρ : List En} {p : Ps} (h : ρ[i]? = some (.own ds)) (he : EV te ρ (· = .own es)) (hl : ds.length + es.length ≤ 100000) (k : p.N (ρ.set i (.own (ds ++ es)))) : TT' (tDrop (tBM K "list" rExtend (tVar i) (tCons te tNil))) ρ p := fun W0 W σ E Dd nx rt bk ct => by
  obtain ⟨l, vs, hv, h1, _⟩ := E.mut (ds' := []) h
  refine ⟨.ref l, hv, .inl ⟨rfl, _, sq_l h1⟩, ?_⟩
  refine he W0 W σ E _ fun v e W1 g1 r1 pe => ?_
  subst pe
  obtain ⟨l2, ws, rfl, h2, _, _, r2⟩ := r1
  obtain ⟨l', vs', hv', h1', _, r', z⟩ := (E.grow g1).mut (ds' := ds ++ es) h
  rw [hv] at hv'
  cases hv'
  obtain ⟨W2, e1, e2, E2⟩ := z (vs' ++ ws) (r'.app r2)
  refine ⟨l, l2, vs', ws, rfl, rfl, h1', h2, Evl.sz_of (by rw [r'.len, r2.len]; exact hl), ?_⟩
  rw [← e2]
  exact nx σ W2 _ E2 (by rw [e1]; exact g1.b) k
theorem ok_taking (T : Txt K mg) (G_lot_of : FnOk P w K mg base CX0 1 T.a_lot_of T.d_lot_of ["row"] (SpE Rg_lot_of)) (G_blank : FnOk P w K mg base CX0 1 T.a_blank T.d_blank ["many"] (SpE Rg_blank)) (G_union : FnOk P w K mg base CX0 2 T.a_union T.d_union ["one", "other"] (SpE Rg_union)) (G_next_taken : FnOk P w K mg base CX0 4 T.a_next_taken T.d_next_taken ["seeds", "told", "row"] (SpE Rg_next_taken)) : FnOk P w K mg base CX0 5 T.a_taking T.d_taking ["seeds", "row"] (SpE Rg_taking) := by
  refine T.F_taking.ok sc_taking (fun vs H Q E h => spE_len h len_taking) (fun cdv A outer s H vs Q E hr h => ?_)
  have hu := hu64 hr
  have hvl : vs.length = 2 := spE_len h len_taking
  refine ⟨_, (pss_cons (ps_set (i := 2) sc_taking.nd rfl (Or.inl rfl) (pe_lst pa_nil)) (pss_cons (ps_set (i := 3) sc_taking.nd rfl (Or.inl rfl) (pe_call G_blank (hr.mono (by decide)) (by rfl) T.g_blank T.F_blank.kp (b_blank T) .nil pass0 (pa_cons (pe_callB (call_lenK (K := K) rfl) (by rfl) T.n_len (by decide +kernel) (pa_cons (pv 1) pa_nil)) pa_nil))) (pss_cons (ps_set (i := 4) sc_taking.nd rfl (Or.inl rfl) (pe_call G_next_taken (hr.mono (by decide)) (by rfl) T.g_next_taken T.F_next_taken.kp (b_next_taken T) .nil pass0 (pa_cons (pv 0) (pa_cons (pv 3) (pa_cons (pv 1) pa_nil))))) (pss_cons (ps_while PassesOwn.never (pt_cmpR op_notNU (pv 4) pe_non (nomark _)) (pss_cons (ps_expr (pe_bm PySem.F.plainAttrs_list PySem.F.slot_list_append PySem.F.type_list_append mt_append (pv 2) (pa_cons (pv 4) pa_nil))) (pss_cons (ps_set (i := 3) sc_taking.nd rfl (Or.inl rfl) (pe_call G_union (hr.mono (by decide)) (by rfl) T.g_union T.F_union.kp (b_union T) .nil pass0 (pa_cons (pv 3) (pa_cons (pe_call G_lot_of (hr.mono (by decide)) (by rfl) T.g_lot_of T.F_lot_of.kp (b_lot_of T) .nil pass0 (pa_cons (pv 4) pa_nil)) pa_nil)))) (pss_one (ps_set (i := 4) sc_taking.nd rfl (Or.inl rfl) (pe_call G_next_taken (hr.mono (by decide)) (by rfl) T.g_next_taken T.F_next_taken.kp (b_next_taken T) .nil pass0 (pa_cons (pv 0) (pa_cons (pv 3) (pa_cons (pv 1) pa_nil))))))))) (pss_one (ps_ret (pe_tup (pa_cons (pv 2) (pa_cons (pv 3) pa_nil))))))))), fn_body h (by rw [hvl]; decide) (fun ds R hR hl => ?_)⟩
  obtain ⟨xs, S, r, rfl, qs, h1, h2, h3, q⟩ := hR
  refine q_asgo (e_lst1 ea_nil (by decide)) ?_
  refine q_asg1 (EV.d1 (e_call0 (R := fun e => e = .dat (.str (List.replicate r.length 46))) (ea_c (EV.d1 (e_cb1 (ea_c (e_var rfl) ea_nil) (cd_lenS (by omega)))) ea_nil) ⟨r.length, rfl, h3, rfl⟩)) ?_
  refine q_asg1 (EV.d1 (e_call0 (R := fun e => e = .dat (nextD S (List.replicate r.length 46) r)) (ea_c (e_var rfl) (ea_c (e_var rfl) (ea_c (e_var rfl) ea_nil))) ⟨xs, S, _, r, rfl, qs, h1, h2, by rw [List.length_replicate], h3, rfl⟩)) ?_
  refine t_seq (M := fun ρ' => ∃ tk t x, ρ' = [.dat (xs), .dat (.str r), .own (tk.map .str), .dat (.str t), x] ∧ FRun S r tk t ∧ Fin S r t)
    (t_while (fun m ρ' => ∃ tk t, ρ' = [.dat (xs), .dat (.str r), .own (tk.map .str), .dat (.str t), .dat (nextD S t r)] ∧ FRun S r tk t ∧ m = dots t) (dots (List.replicate r.length 46)) ⟨[], _, rfl, .nil, rfl⟩ fun m ρ' inv => ?_) fun ρ' m => ?_
  · obtain ⟨tk, t, rfl, hrun, rfl⟩ := inv
    have hlt := run_len h2 hrun.run
    have hd := run_dots h2 hrun.run
    refine ⟨_, et_t1 (e_opd (e_var rfl) e_non od_notN), fun e => ?_, fun e => ?_⟩
    · rcases nextD_cases S t r with ⟨s, e1, e2, e3⟩ | ⟨e1, _⟩
      · rw [e1]
        have hsl := h2 s e2
        refine t_seq (M := fun ρ' => ρ' = [.dat (xs), .dat (.str r), .own ((tk ++ [s]).map .str), .dat (.str t), .dat (.str s)]) (t_app (PD := fun d => d = .str s) (ds := tk.map .str) rfl (e_var rfl) (by rw [List.length_map]; omega) fun d hd => ?_) fun ρ' hρ => ?_
        · rw [hd, List.map_append]; rfl
        · subst hρ
          refine q_asg1 (EV.d1 (e_call0 (R := fun e => e = .dat (.str (ov t (lotOf s)))) (ea_c (e_var rfl) (ea_c (EV.d1 (e_call0 (R := fun e => e = .dat (.str (lotOf s))) (ea_c (e_var rfl) ea_nil) ⟨s, rfl, by omega, rfl⟩)) ea_nil)) ⟨t, lotOf s, rfl, by omega, rfl⟩)) ?_
          refine t_asgd (EV.d1 (e_call0 (R := fun e => e = .dat (nextD S (ov t (lotOf s)) r)) (ea_c (e_var rfl) (ea_c (e_var rfl) (ea_c (e_var rfl) ea_nil))) ⟨xs, S, _, r, rfl, qs, h1, h2, by rw [ov_len, lotOf_len]; omega, h3, rfl⟩)) fun d hd => ?_
          subst hd
          exact ⟨_, ov_lot_dots (by omega) e3, tk ++ [s], ov t (lotOf s), rfl, .snoc hrun (nextD_find e1), rfl⟩
      · rw [e1] at e; cases e
    · rcases nextD_cases S t r with ⟨s, e1, e2, e3⟩ | ⟨e1, e2⟩
      · rw [e1] at e; cases e
      · exact ⟨tk, t, _, rfl, hrun, e2⟩
  · obtain ⟨tk, t, x, rfl, hrun, hfin⟩ := m
    refine t_freeze (i := 2) (ds := tk.map .str) rfl ?_
    exact t_ret1 (e_tup1 (ea_c (e_var rfl) (ea_c (e_var rfl) ea_nil)) (by simp)) (q tk t hrun hfin)

theorem ok_tellers_outside (T : Txt K mg) (G_outside : FnOk P w K mg base CX0 1 T.a_outside T.d_outside ["seed", "told"] (SpE Rg_outside)) : FnOk P w K mg base CX0 2 T.a_tellers_outside T.d_tellers_outside ["seeds", "told"] (SpE Rg_tellers_outside) := by
  refine T.F_tellers_outside.ok sc_tellers_outside (fun vs H Q E h => spE_len h len_tellers_outside) (fun cdv A outer s H vs Q E hr h => ?_)
  have hu := hu64 hr
  have hvl : vs.length = 2 := spE_len h len_tellers_outside
  refine ⟨_, (pss_one (ps_ret (pe_lc (own := [("seed", 2)]) (g := gName 2) (tt := _) rfl sc_tellers_outside.nd (pi_listK (K := K) rfl (pv 0)) (blkOk_by (N := N_tellers_outside) (sc := defScope s_tellers_outside) (by decide +kernel)) (fun _ _ _ _ _ => (pg_name (i := 2) sc_tellers_outside.nd rfl (Or.inl rfl))) (fun _ _ _ _ _ => (pts_one (pt_cmpR op_gt (pe_callB (call_lenK (K := K) rfl) (by rfl) T.n_len (by decide +kernel) (pa_cons (pe_call G_outside (hr.mono (by decide)) (by rfl) T.g_outside T.F_outside.kp (b_outside T) .nil pass0 (pa_cons (pv 2) (pa_cons (pv 1) pa_nil))) pa_nil)) pe_int (nomark _)))) (fun _ _ _ _ _ => (pv 2))))), fn_body h (by rw [hvl]; decide) (fun ds R hR hl => ?_)⟩
  obtain ⟨xs, S, t, rfl, qs, h1, h2, h3, q⟩ := hR
  refine t_ret (P := fun e => e = .own ((S.filter fun s => decide ((0 : Int) < ((outs s t).length : Int))).map .str)) (lc1_filt (t := fun s => decide ((0 : Int) < ((outs s t).length : Int))) (emb := D.str) (f := D.str) (iv_sq qs (e_var rfl)) (by omega) (fun i s hs => ?_) (fun i s hs _ => e_var rfl)) fun e he => by rw [he]; exact q
  have hl := h2 s (List.mem_of_getElem? hs)
  refine (et_t1 (e_opd (EV.d1 (e_cb1 (ea_c (EV.o1 (e_call0 (R := fun e => e = .own ((outs s t).map fun (i : Nat) => .int i)) (ea_c (e_var rfl) (ea_c (e_var rfl) ea_nil)) ⟨s, t, rfl, hl, by omega, rfl⟩)) ea_nil) cd_lenL)) e_int od_gt)).is ?_
  rw [List.length_map]

theorem ok_comes_to (T : Txt K mg) (G_lot_of : FnOk P w K mg base CX0 1 T.a_lot_of T.d_lot_of ["row"] (SpE Rg_lot_of)) (G_taking : FnOk P w K mg base CX0 5 T.a_taking T.d_taking ["seeds", "row"] (SpE Rg_taking)) : FnOk P w K mg base CX0 6 T.a_comes_to T.d_comes_to ["seeds", "row"] (SpE Rg_comes_to) := by
  refine T.F_comes_to.ok sc_comes_to (fun vs H Q E h => spE_len h len_comes_to) (fun cdv A outer s H vs Q E hr h => ?_)
  have hu := hu64 hr
  have hvl : vs.length = 2 := spE_len h len_comes_to
  refine ⟨_, (pss_cons (ps_asg (pe_call G_taking (hr.mono (by decide)) (by rfl) T.g_taking T.F_taking.kp (b_taking T) .nil pass0 (pa_cons (pv 0) (pa_cons (pv 1) pa_nil))) (pg_tup rfl (pgs_cons (pg_name (i := 2) sc_comes_to.nd rfl (Or.inl rfl)) (pgs_cons (pg_name (i := 3) sc_comes_to.nd rfl (Or.inl rfl)) pgs_nil)))) (pss_one (ps_ret (pe_cmpR (op_eqK (K := K) rfl hu) (pv 3) (pe_call G_lot_of (hr.mono (by decide)) (by rfl) T.g_lot_of T.F_lot_of.kp (b_lot_of T) .nil pass0 (pa_cons (pv 1) pa_nil)) (nomark _))))), fn_body h (by rw [hvl]; decide) (fun ds R hR hl => ?_)⟩
  obtain ⟨xs, S, r, rfl, qs, h1, h2, h3, q⟩ := hR
  refine t_seq (M := fun ρ' => ∃ tk t, ρ' = [.dat (xs), .dat (.str r), .dat (.lst (tk.map .str)), .dat (.str t)] ∧ FRun S r tk t ∧ Fin S r t) (t_taking (S := S) (r := r) (e_call0 (ea_c (e_var rfl) (ea_c (e_var rfl) ea_nil)) ⟨xs, S, r, rfl, qs, h1, h2, h3, fun tk t a b => ⟨tk, t, rfl, a, b⟩⟩) fun tk t a b => ⟨tk, t, rfl, a, b⟩) fun ρ' m => ?_
  obtain ⟨tk, t, rfl, a, b⟩ := m
  exact t_ret1 (e_opd (e_var rfl) (EV.d1 (e_call0 (R := fun e => e = .dat (.str (lotOf r))) (ea_c (e_var rfl) ea_nil) ⟨r, rfl, h3, rfl⟩)) od_eqS) (q tk t a b)


theorem ok_is_made (T : Txt K mg) (G_is_row : FnOk P w K mg base CX0 1 T.a_is_row T.d_is_row ["cells", "value"] (SpE Rg_is_row)) (G_comes_to : FnOk P w K mg base CX0 6 T.a_comes_to T.d_comes_to ["seeds", "row"] (SpE Rg_comes_to)) : FnOk P w K mg base CX0 7 T.a_is_made T.d_is_made ["cells", "seeds", "row"] (SpE Rg_is_made) := by
  refine T.F_is_made.ok sc_is_made (fun vs H Q E h => spE_len h len_is_made) (fun cdv A outer s H vs Q E hr h => ?_)
  have hu := hu64 hr
  have hvl : vs.length = 3 := spE_len h len_is_made
  refine ⟨_, (pss_one (ps_ret (pe_and (pe_call G_is_row (hr.mono (by decide)) (by rfl) T.g_is_row T.F_is_row.kp (b_is_row T) .nil pass0 (pa_cons (pv 0) (pa_cons (pv 2) pa_nil))) (pe_one (pe_call G_comes_to (hr.mono (by decide)) (by rfl) T.g_comes_to T.F_comes_to.kp (b_comes_to T) .nil pass0 (pa_cons (pv 1) (pa_cons (pv 2) pa_nil))))))), fn_body h (by rw [hvl]; decide) (fun ds R hR hl => ?_)⟩
  obtain ⟨xc, xs, cs, S, r, rfl, qc, qs, hc, h1, h2, q⟩ := hR
  have h3 : r.length ≤ 1000 := by have := hc.1; have := hc.2.1; omega
  refine t_retd (PD := fun d => ∃ tk t, FRun S r tk t ∧ Fin S r t ∧ d = .bl (decide (t = lotOf r))) (fun W0 W σ En' Q' q' => ?_) fun d ⟨tk, t, a, b, e⟩ => by rw [e]; exact q tk t a b
  refine EV.d1 (e_call0 (R := fun e => e = .dat (.bl true)) (ea_c (e_var rfl) (ea_c (e_var rfl) ea_nil)) ⟨xc, cs, r, rfl, qc, hc.1, hc.2.1, hc.2.2.1, by rw [hc.2.2.2]⟩) W0 W σ En' _ fun v d W1 g1 r1 e1 => ?_
  subst e1
  cases r1
  refine ⟨true, rfl, iteT ?_⟩
  refine (EV.ed (P := fun d => ∃ tk t, FRun S r tk t ∧ Fin S r t ∧ d = .bl (decide (t = lotOf r))) (e_call0 (R := fun e => ∃ tk t, FRun S r tk t ∧ Fin S r t ∧ e = .dat (.bl (decide (t = lotOf r)))) (ea_c (e_var rfl) (ea_c (e_var rfl) ea_nil)) ⟨xs, S, r, rfl, qs, h1, h2, h3, fun tk t a b => ⟨tk, t, a, b, rfl⟩⟩) fun e ⟨tk, t, a, b, e1⟩ => ⟨_, by rw [e1]; rfl, tk, t, a, b, rfl⟩) W0 W1 σ (En'.grow g1) _ fun v d W2 g2 r2 p2 => q' v d W2 (g1.trans g2) r2 p2

theorem ok_come (T : Txt K mg) (G_is_row : FnOk P w K mg base CX0 1 T.a_is_row T.d_is_row ["cells", "value"] (SpE Rg_is_row)) (G_lot_of : FnOk P w K mg base CX0 1 T.a_lot_of T.d_lot_of ["row"] (SpE Rg_lot_of)) (G_barring : FnOk P w K mg base CX0 2 T.a_barring T.d_barring ["seed", "told", "row"] (SpE Rg_barring)) (G_taking : FnOk P w K mg base CX0 5 T.a_taking T.d_taking ["seeds", "row"] (SpE Rg_taking)) (G_tellers_outside : FnOk P w K mg base CX0 2 T.a_tellers_outside T.d_tellers_outside ["seeds", "told"] (SpE Rg_tellers_outside)) : FnOk P w K mg base CX0 6 T.a_come T.d_come ["cells", "seeds", "row"] (SpE Rg_come) := by
  refine T.F_come.ok sc_come (fun vs H Q E h => spE_len h len_come) (fun cdv A outer s H vs Q E hr h => ?_)
  have hu := hu64 hr
  have hvl : vs.length = 3 := spE_len h len_come
  refine ⟨_, (pss_cons (ps_if (pt_not (pt_val (pe_call G_is_row (hr.mono (by decide)) (by rfl) T.g_is_row T.F_is_row.kp (b_is_row T) .nil pass0 (pa_cons (pv 0) (pa_cons (pv 2) pa_nil))))) (pss_one ps_never) pss_nil) (pss_cons (ps_asg (pe_call G_taking (hr.mono (by decide)) (by rfl) T.g_taking T.F_taking.kp (b_taking T) .nil pass0 (pa_cons (pv 1) (pa_cons (pv 2) pa_nil))) (pg_tup rfl (pgs_cons (pg_name (i := 3) sc_come.nd rfl (Or.inl rfl)) (pgs_cons (pg_name (i := 4) sc_come.nd rfl (Or.inl rfl)) pgs_nil)))) (pss_cons (ps_set (i := 5) sc_come.nd rfl (Or.inl rfl) (pe_lst (pa_cons (pe_tup (pa_cons pe_str (pa_cons (pv 2) pa_nil))) pa_nil))) (pss_cons (ps_expr (pe_bm PySem.F.plainAttrs_list PySem.F.slot_list_extend PySem.F.type_list_extend mt_extend (pv 5) (pa_cons (pe_lc (own := [("seed", 6)]) (g := gName 6) (tt := tYes) rfl sc_come.nd (pi_listK (K := K) rfl (pv 3)) (blkOk_by (N := N_come) (sc := defScope s_come) (by decide +kernel)) (fun _ _ _ _ _ => (pg_name (i := 6) sc_come.nd rfl (Or.inl rfl))) (fun _ _ _ _ _ => pts_nil) (fun _ _ _ _ _ => (pe_tup (pa_cons pe_str (pa_cons (pv 6) pa_nil))))) pa_nil))) (pss_cons (ps_if (pt_cmpR (op_eqK (K := K) rfl hu) (pv 4) (pe_call G_lot_of (hr.mono (by decide)) (by rfl) T.g_lot_of T.F_lot_of.kp (b_lot_of T) .nil pass0 (pa_cons (pv 2) pa_nil)) (nomark _)) (pss_cons (ps_expr (pe_bm PySem.F.plainAttrs_list PySem.F.slot_list_append PySem.F.type_list_append mt_append (pv 5) (pa_cons (pe_tup (pa_cons pe_str pa_nil)) pa_nil))) (pss_one (ps_ret (pv 5)))) pss_nil) (pss_cons (ps_for PassesOwn.never rfl (pi_listK (K := K) rfl (pe_call G_tellers_outside (hr.mono (by decide)) (by rfl) T.g_tellers_outside T.F_tellers_outside.kp (b_tellers_outside T) .nil pass0 (pa_cons (pv 1) (pa_cons (pv 4) pa_nil)))) (pg_name (i := 6) sc_come.nd rfl (Or.inl rfl)) (pss_cons (ps_set (i := 7) sc_come.nd rfl (Or.inl rfl) (pe_ix (ix_K (K := K) rfl) (pe_call G_barring (hr.mono (by decide)) (by rfl) T.g_barring T.F_barring.kp (b_barring T) .nil pass0 (pa_cons (pv 6) (pa_cons (pv 4) (pa_cons (pv 2) pa_nil)))) pe_int (fun _ _ => rfl))) (pss_one (ps_expr (pe_bm PySem.F.plainAttrs_list PySem.F.slot_list_append PySem.F.type_list_append mt_append (pv 5) (pa_cons (pe_tup (pa_cons pe_str (pa_cons (pv 6) (pa_cons (pe_ix (ix_K (K := K) rfl) (pe_ix (ix_K (K := K) rfl) (pv 0) (pv 7) (fun _ _ => rfl)) pe_int (fun _ _ => rfl)) pa_nil)))) pa_nil)))))) (pss_cons (ps_expr (pe_bm PySem.F.plainAttrs_list PySem.F.slot_list_append PySem.F.type_list_append mt_append (pv 5) (pa_cons (pe_tup (pa_cons pe_str pa_nil)) pa_nil))) (pss_one (ps_ret (pv 5)))))))))), fn_body h (by rw [hvl]; decide) (fun ds R hR hl => ?_)⟩
  obtain ⟨xc, xs, cs, S, r, rfl, qc, qs, hc, h1, h2, q⟩ := hR
  have h3 : r.length ≤ 1000 := by have := hc.1; have := hc.2.1; omega
  refine q_if1 (b := false) (et_not1 (et_v1 (EV.d1 (e_call0 (R := fun e => e = .dat (.bl true)) (ea_c (e_var rfl) (ea_c (e_var rfl) ea_nil)) ⟨xc, cs, r, rfl, qc, hc.1, hc.2.1, hc.2.2.1, by rw [hc.2.2.2]⟩)))) (fun e => by cases e) fun _ => ?_
  refine t_seq (M := fun ρ' => ∃ tk t, ρ' = [.dat (xc), .dat (xs), .dat (.str r), .dat (.lst (tk.map .str)), .dat (.str t), .un, .un, .un] ∧ FRun S r tk t ∧ Fin S r t) (t_taking (S := S) (r := r) (e_call0 (ea_c (e_var rfl) (ea_c (e_var rfl) ea_nil)) ⟨xs, S, r, rfl, qs, h1, h2, h3, fun tk t a b => ⟨tk, t, rfl, a, b⟩⟩) fun tk t a b => ⟨tk, t, rfl, a, b⟩) fun ρ' m => ?_
  obtain ⟨tk, t, rfl, hrun, hfin⟩ := m
  have hlt := run_len h2 hrun.run
  have hd := run_dots h2 hrun.run
  refine q_asgo (e_lst1 (ds := [lRow r]) (ea_c (e_tup1 (ea_c (e_str (s := [114, 111, 119]) (by decide +kernel)) (ea_c (e_var rfl) ea_nil)) (by simp)) ea_nil) (by simp)) ?_
  refine t_seq (M := fun ρ' => ρ' = [.dat (xc), .dat (xs), .dat (.str r), .dat (.lst (tk.map .str)), .dat (.str t), .own (lRow r :: tk.map lTake), .un, .un]) (t_ext (ds := [lRow r]) (es := tk.map lTake) rfl (lc1_map (emb := D.str) (f := lTake) (iv_list1 (e_var rfl)) (by omega) fun i s hs => e_tup1 (ea_c (e_str (s := [116, 97, 107, 101]) (by decide +kernel)) (ea_c (e_var rfl) ea_nil)) (by simp)) (by rw [List.length_map]; simp; omega) rfl) fun ρ' m => ?_
  subst m
  refine q_if1 (b := decide (t = lotOf r)) (et_eqS (e_var rfl) (EV.d1 (e_call0 (R := fun e => e = .dat (.str (lotOf r))) (ea_c (e_var rfl) ea_nil) ⟨r, rfl, h3, rfl⟩))) (fun e => ?_) (fun e => ?_)
  · have e' := of_decide_eq_true e
    refine t_seq (M := fun ρ' => ρ' = [.dat (xc), .dat (xs), .dat (.str r), .dat (.lst (tk.map .str)), .dat (.str t), .own (lRow r :: tk.map lTake ++ [lMade]), .un, .un]) (t_app (PD := fun d => d = lMade) (ds := lRow r :: tk.map lTake) rfl (e_tup1 (ea_c (e_str (s := [109, 97, 100, 101]) (by decide +kernel)) ea_nil) (by simp)) (by simp; omega) fun d hd => by rw [hd]; rfl) fun ρ' m => ?_
    subst m
    refine t_retO (i := 5) rfl (by have := q tk t hrun hfin; unfold linesD at this; rw [if_pos e'] at this; exact this)
  · have e' := of_decide_eq_false e
    have hwl : (waitS S t).length ≤ S.length := List.length_filter_le _ _
    refine t_seq (M := fun ρ' => ∃ x y, ρ' = [.dat (xc), .dat (xs), .dat (.str r), .dat (.lst (tk.map .str)), .dat (.str t), .own (lRow r :: tk.map lTake ++ ((waitS S t).map (barOf cs r t))), x, y])
      (t_for1 (Ti := fun ds => ds = ((waitS S t).map D.str)) (iv_list1 (EV.o1 (e_call0 (R := fun e => e = .own ((waitS S t).map .str)) (ea_c (e_var rfl) (ea_c (e_var rfl) ea_nil)) ⟨xs, S, t, rfl, qs, h1, by rw [hlt]; exact h2, by omega, rfl⟩)))
        (fun ds i ρ' => ∃ x y, ρ' = [.dat (xc), .dat (xs), .dat (.str r), .dat (.lst (tk.map .str)), .dat (.str t), .own (lRow r :: tk.map lTake ++ (((waitS S t).take i).map (barOf cs r t))), x, y]) (fun ds e => ⟨.un, .un, by simp⟩) (fun ds i d ρ' e hd inv => ?_) (fun ds ρ' e ⟨x, y, a⟩ => ⟨x, y, by rw [a, e, List.length_map, List.take_length]⟩)) fun ρ' m => ?_
    · subst e
      obtain ⟨x, y, rfl⟩ := inv
      obtain ⟨s, hs, rfl⟩ := map_get hd
      have hm := List.mem_of_getElem? hs
      obtain ⟨hS, ho⟩ := List.mem_filter.mp hm
      have hil := (List.getElem?_eq_some_iff.mp hs).1
      have hfl := List.length_filter_le (fun s => decide ((0 : Int) < ((outs s t).length : Int))) S
      have hsl := h2 s hS
      have hb1 : ∃ i0 l, bars s t r = i0 :: l := by
        cases hq : bars s t r with
        | cons i0 l => exact ⟨i0, l, rfl⟩
        | nil =>
          have : canT s t r = true := by unfold canT; rw [ho, hq]; rfl
          rw [hfin s hS] at this; cases this
      obtain ⟨i0, l, hq⟩ := hb1
      have hi0 : i0 < s.length := by
        have : i0 ∈ bars s t r := by rw [hq]; exact List.mem_cons_self
        unfold bars at this
        exact outs_lt (List.mem_filter.mp this).1
      have hcl : cs[i0]? = some (cs[i0]'(by have := hc.1; omega)) := List.getElem?_eq_getElem _
      refine q_asg1 (d := .int (i0 : Nat)) (e_opd (EV.o1 (e_call0 (R := fun e => e = .own ((bars s t r).map fun (i : Nat) => .int i)) (ea_c (e_var rfl) (ea_c (e_var rfl) (ea_c (e_var rfl) ea_nil))) ⟨s, t, r, rfl, by omega, hsl, by omega, rfl⟩)) e_int (od_ixL (j := 0) rfl (by rw [hq]; rfl))) ?_
      have hbo : barOf cs r t s = .tup [.str [98, 97, 114], .str s, .str (cs[i0]'(by have := hc.1; omega)).1] := by
        unfold barOf
        rw [hq, List.headD_cons, List.getD_eq_getElem?_getD, hcl]; rfl
      refine t_app (PD := fun d => d = barOf cs r t s) (ds := lRow r :: tk.map lTake ++ (((waitS S t).take i).map (barOf cs r t))) rfl ((e_tup1 (ea_c (e_str (s := [98, 97, 114]) (by decide +kernel)) (ea_c (e_var rfl) (ea_c (e_opd (e_opd (e_var rfl) (e_var rfl) (od_ixSq (j := i0) qc rfl (by rw [List.getElem?_map, hcl]; rfl))) e_int (od_ixT (j := 0) rfl rfl)) ea_nil))) (by simp)).imp fun d hd => by rw [hd, hbo]) (by simp; omega) fun d hd => ⟨.dat (.str s), .dat (.int (i0 : Nat)), ?_⟩
      rw [hd, take_step hs, List.map_append, List.append_assoc]; rfl
    · obtain ⟨x, y, rfl⟩ := m
      refine t_seq (M := fun ρ' => ρ' = [.dat (xc), .dat (xs), .dat (.str r), .dat (.lst (tk.map .str)), .dat (.str t), .own (lRow r :: tk.map lTake ++ ((waitS S t).map (barOf cs r t)) ++ [lBarred]), x, y]) (t_app (PD := fun d => d = lBarred) (ds := lRow r :: tk.map lTake ++ (waitS S t).map (barOf cs r t)) rfl (e_tup1 (ea_c (e_str (s := [98, 97, 114, 114, 101, 100]) (by decide +kernel)) ea_nil) (by simp)) (by simp; omega) fun d hd => by rw [hd]; rfl) fun ρ' m => ?_
      subst m
      exact t_retO (i := 5) rfl (by have := q tk t hrun hfin; unfold linesD at this; rw [if_neg e'] at this; exact this)
end
end Nt

namespace Nt
open PySem PySem.Spec PyProof.Rows L2


/-! ### the draws -/
def Rg_law_bagL (K : PySem.W.Frag) (ds : List D) (P : En → Prop) : Prop := ∃ (ns : List Int), ds = [.scr K ns] ∧ ns.length ≤ 63 ∧ ∀ m : Int, 0 ≤ m → m < 2147483648 → P (.own [.lst (ns.map .int), .int 0, .int 0, .int m, .int 0])
def Rg_law_bag (K : PySem.W.Frag) (ds : List D) (P : En → Prop) : Prop := ∃ (ns : List Int), ds = [.scr K ns] ∧ ns.length ≤ 63 ∧ P (.dat .bag)
theorem len_law_bag {K} (ds P) (h : Rg_law_bagL K ds P) : ds.length = 1 := by unfold Rg_law_bagL at h; obtain ⟨_, rfl, _⟩ := h; rfl
theorem len_law_bag' {K} (ds P) (h : Rg_law_bag K ds P) : ds.length = 1 := by unfold Rg_law_bag at h; obtain ⟨_, rfl, _⟩ := h; rfl
theorem fmod_lt {i j : Int} (h : 0 < j) : 0 ≤ i.fmod j ∧ i.fmod j < j := ⟨Int.fmod_nonneg_of_pos i h, Int.fmod_lt_of_pos i h⟩
theorem cut63 {α : Type} {ns : List α} (h : ns.length ≤ 63) : cutN ns none (some 63) = ns := by
  have e : (63 : Int) = ((63 : Nat) : Int) := rfl
  unfold cutN
  rw [HT.sIx_none, e, HT.sIx_nat, List.drop_zero, Nat.sub_zero]
  exact List.take_of_length_le (by omega)
def spDrawL : Sp := fun vs H Q _ => ∃ (b c : Addr) (k i r m n : Int) (ns : List Int), vs = [.ref b, .int k] ∧ H b = some (bagL c i r m n) ∧ H c = some (.lst (ns.map .int)) ∧ 1 ≤ k ∧ k.natAbs.log2 < 9000 ∧ 0 ≤ i ∧ 0 ≤ r ∧ 0 ≤ m ∧ m < 2147483648 ∧
  ∀ j i' r' m' n', 0 ≤ j → j < k → 0 ≤ i' → 0 ≤ r' → 0 ≤ m' → m' < 2147483648 → Q (.int j) (upd H b (bagL c i' r' m' n'))
theorem len_law_drawL {vs : List V} {H : Hp} {Q : VK} {E : XK} (h : spDrawL vs H Q E) : vs.length = 2 := by obtain ⟨_, _, _, _, _, _, _, _, rfl, _⟩ := h; rfl
theorem upd_upd {H : Hp} {b : Addr} {x y : HO} : upd (upd H b x) b y = upd H b y := by
  funext a
  by_cases e : a = b
  · rw [e, upd_same, upd_same]
  · rw [upd_ne e, upd_ne e, upd_ne e]
/-! values that leave the heap as it is -/
def Vl (te : TE) (σ : L2.St) (H : Hp) (v : V) : Prop := ∀ Q : VK, Q v H → te σ H Q
def Vt (te : TT) (σ : L2.St) (H : Hp) (v : Bool) : Prop := ∀ Q : Bool → Hp → Prop, Q v H → te σ H Q
section
variable {K : PySem.W.Frag} {σ : L2.St} {H : Hp} {ta tb : TE} {tt tu : TT} {i j : Int} {v : V}
theorem vl_var {k : Nat} (h : σ[k]? = some (some v)) : Vl (tVar k) σ H v := fun Q q => ⟨v, h, q⟩
theorem vl_c : Vl (tC v) σ H v := fun Q q => q
theorem vl_add (ha : Vl ta σ H (.int i)) (hb : Vl tb σ H (.int j)) : Vl (tOp rPlus ta tb) σ H (.int (i + j)) := fun Q q => ha _ (hb _ (.inl ⟨i, j, rfl, rfl, q⟩))
theorem vl_mul (ha : Vl ta σ H (.int i)) (hb : Vl tb σ H (.int j)) (h : CMulW i j) : Vl (tOp rTimes ta tb) σ H (.int (i * j)) := fun Q q => ha _ (hb _ (.inl ⟨i, j, rfl, rfl, h, q⟩))
theorem vl_mulN (ha : Vl ta σ H (.int i)) (hb : Vl tb σ H (.int j)) (h : CMul i j) : Vl (tOp rTimes ta tb) σ H (.int (i * j)) := fun Q q => ha _ (hb _ (.inr (.inr ⟨i, j, rfl, rfl, h, q⟩)))
theorem vl_mod (ha : Vl ta σ H (.int i)) (hb : Vl tb σ H (.int j)) (h : j ≠ 0) : Vl (tOp (rI (fun _ j => j ≠ 0) fun i j => .int (i.fmod j)) ta tb) σ H (.int (i.fmod j)) := fun Q q => ha _ (hb _ ⟨i, j, rfl, rfl, h, q⟩)
theorem vl_div (ha : Vl ta σ H (.int i)) (hb : Vl tb σ H (.int j)) (h : CDivW i j) : Vl (tOp (rI CDivW fun i j => .int (i / j)) ta tb) σ H (.int (i / j)) := fun Q q => ha _ (hb _ ⟨i, j, rfl, rfl, h, q⟩)
theorem vl_pow (ha : Vl ta σ H (.int i)) (hb : Vl tb σ H (.int j)) (h : CPow i j) : Vl (tOp (rI CPow fun i j => .int (i ^ j.toNat)) ta tb) σ H (.int (i ^ j.toNat)) := fun Q q => ha _ (hb _ ⟨i, j, rfl, rfl, h, q⟩)
theorem vl_int (ha : Vl ta σ H (.int i)) : Vl (tCB rIntI (tCons ta tNil)) σ H (.int i) := fun Q q => ha _ (.inl ⟨i, rfl, q⟩)
theorem vl_abs (ha : Vl ta σ H (.int i)) : Vl (tCB rAbsI (tCons ta tNil)) σ H (.int (if i < 0 then -i else i)) := fun Q q => ha _ ⟨i, rfl, q⟩
theorem vl_ix {b : Addr} {xs : List V} {k : Nat} (ha : Vl ta σ H (.ref b)) (hb : Vl tb σ H (.int k)) (h : H b = some (.lst xs)) (hx : xs[k]? = some v) : Vl (tOp (rIx K) ta tb) σ H v := fun Q q => ha _ (hb _ (.inl ⟨b, xs, k, v, rfl, rfl, sq_l h, atI_nat hx, q⟩))
theorem vl_len {b : Addr} {xs : List V} (ha : Vl ta σ H (.ref b)) (h : H b = some (.lst xs)) : Vl (tCB (rLenU K) (tCons ta tNil)) σ H (.int xs.length) := fun Q q => ha _ (.inl ⟨b, xs, rfl, .inl (sq_l h), q⟩)
theorem vt_eq (ha : Vl ta σ H (.int i)) (hb : Vl tb σ H (.int j)) : Vt (tTest (tOp (rEqU K) ta tb)) σ H (decide (i = j)) := fun Q q => ha _ (hb _ (.inl ⟨rfl, _, rfl, by
  have e : decide (V.int i = V.int j) = decide (i = j) := decide_eq_decide.mpr ⟨V.int.inj, congrArg _⟩
  rw [e]; exact q⟩))
theorem vt_lt (ha : Vl ta σ H (.int i)) (hb : Vl tb σ H (.int j)) : Vt (tTest (tOp (rI0 fun i j => .bl (decide (i < j))) ta tb)) σ H (decide (i < j)) := fun Q q => ha _ (hb _ ⟨i, j, rfl, rfl, _, rfl, q⟩)
theorem vt_gt (ha : Vl ta σ H (.int i)) (hb : Vl tb σ H (.int j)) : Vt (tTest (tOp (rI0 fun i j => .bl (decide (j < i))) ta tb)) σ H (decide (j < i)) := fun Q q => ha _ (hb _ ⟨i, j, rfl, rfl, _, rfl, q⟩)
theorem vt_ge (ha : Vl ta σ H (.int i)) (hb : Vl tb σ H (.int j)) : Vt (tTest (tOp (rI0 fun i j => .bl (decide (j ≤ i))) ta tb)) σ H (decide (j ≤ i)) := fun Q q => ha _ (hb _ ⟨i, j, rfl, rfl, _, rfl, q⟩)
theorem vt_and {a b : Bool} (h1 : Vt tt σ H a) (h2 : Vt tu σ H b) : Vt (tAnd tt tu) σ H (a && b) := fun Q q => h1 _ (by
  cases a with
  | true => exact iteT (h2 _ q)
  | false => exact iteF q)
/-- b[k] = v -/
theorem st_set {te : TE} {b : Addr} {xs : List V} {k : Nat} {D : Ends} (ha : Vl te σ H v) (ho : Vl ta σ H (.ref b)) (hi : Vl tb σ H (.int k)) (h : H b = some (.lst xs)) (hk : k < xs.length) (q : D.nx σ (upd H b (.lst (xs.set k v)))) : tAsg te (gSub ta tb rSetL) D σ H := by
  refine ha _ (ho _ (hi _ ⟨b, xs, k, k, rfl, rfl, h, ?_, q⟩))
  unfold ixN
  rw [if_pos (by omega), if_pos (by omega)]
  simp
theorem st_name {te : TE} {k : Nat} {D : Ends} (ha : Vl te σ H v) (q : D.nx (σ.set k (some v)) H) : tAsg te (gName k) D σ H := ha _ q
theorem st_if {a : Bool} {t u : TS} {D : Ends} (h : Vt tt σ H a) (h1 : a = true → t D σ H) (h2 : a = false → u D σ H) : tIfS tt t u D σ H := h _ (by
  cases a with
  | true => exact iteT (h1 rfl)
  | false => exact iteF (h2 rfl))
end
theorem mulS {i j : Int} {a b : Nat} (h0 : 0 ≤ i) (h1 : i < 2 ^ a) (g0 : 0 ≤ j) (g1 : j < 2 ^ b) (ha : 0 < a) (hb : 0 < b) (h : a + b ≤ 1000000) : CMulW i j := by
  have e1 : ((2 ^ a : Nat) : Int) = 2 ^ a := by rw [Int.natCast_pow]; rfl
  have e2 : ((2 ^ b : Nat) : Int) = 2 ^ b := by rw [Int.natCast_pow]; rfl
  exact wide_mul (a := a) (b := b) (by omega) (by omega) ha hb h
section
variable {P : Program} {w : World} {K : PySem.W.Frag} {mg : Str → Option Value} {base : Heap}
theorem ok_law_bagL (T : Txt K mg)  : FnOk P w K mg base CX0 1 T.a_law_bag T.d_law_bag ["_law_script"] (SpE (Rg_law_bagL K)) := by
  refine T.F_law_bag.ok sc_law_bag (fun vs H Q E h => spE_len h len_law_bag) (fun cdv A outer s H vs Q E hr h => ?_)
  have hu := hu64 hr
  have hvl : vs.length = 1 := spE_len h len_law_bag
  refine ⟨_, (pss_cons (ps_set (i := 1) sc_law_bag.nd rfl (Or.inl rfl) pe_int) (pss_cons (ps_for PassesOwn.never rfl (pi_listK (K := K) rfl (pe_slice (sl_K (K := K) rfl) (pv 0) po_none (po_some pe_int))) (pg_name (i := 2) sc_law_bag.nd rfl (Or.inl rfl)) (pss_one (ps_set (i := 1) sc_law_bag.nd rfl (Or.inl rfl) (pe_op op_modN (pe_callTy call_intI (by rfl) T.n_int (by decide +kernel) (pa_cons (pe_op op_plus (pe_op op_plus (pe_op op_times (pv 1) pe_int) (pe_op op_times (pe_op op_modN (pe_callTy call_intI (by rfl) T.n_int (by decide +kernel) (pa_cons (pv 2) pa_nil)) pe_int) pe_int)) pe_int) pa_nil)) pe_int)))) (pss_one (ps_ret (pe_lst (pa_cons (pe_callTy (call_listK (K := K) rfl) (by rfl) T.n_list (by decide +kernel) (pa_cons (pe_slice (sl_K (K := K) rfl) (pv 0) po_none (po_some pe_int)) pa_nil)) (pa_cons pe_int (pa_cons pe_int (pa_cons (pv 1) (pa_cons pe_int pa_nil)))))))))), fn_body h (by rw [hvl]; decide) (fun ds R hR hl => ?_)⟩
  obtain ⟨ns, rfl, hn, q⟩ := hR
  refine q_asg1 e_int ?_
  refine t_seq (M := fun ρ' => ∃ m x, ρ' = [.dat (.scr K ns), .dat (.int m), x] ∧ 0 ≤ m ∧ m < 2147483648) (t_for1 (iv_list1 (EV.o1 (e_sl (e_var rfl) eo_none (eo_part e_int) sd_scr))) (fun ds i ρ' => ∃ m x, ρ' = [.dat (.scr K ns), .dat (.int m), x] ∧ 0 ≤ m ∧ m < 2147483648) (fun ds e => ⟨42012, .un, rfl, by decide, by decide⟩) (fun ds i d ρ' e hd inv => ?_) (fun ds ρ' e h => h)) fun ρ' hm => ?_
  · subst e
    obtain ⟨m, x, rfl, h0, h1⟩ := inv
    obtain ⟨z, hz, rfl⟩ := map_get hd
    refine t_asgd (e_opd (EV.d1 (e_cb1 (ea_c (e_opd (e_opd (e_opd (e_var rfl) e_int (od_mulI (mulS (a := 31) (b := 16) h0 (by omega) (by decide) (by decide) (by decide) (by decide) (by decide)))) (e_opd (e_opd (EV.d1 (e_cb1 (ea_c (e_var rfl) ea_nil) cd_int)) e_int (od_modI (by decide))) e_int (od_mulI (mulS (a := 20) (b := 10) (fmod_lt (by decide)).1 (by have := (fmod_lt (i := z) (j := 999983) (by decide)).2; omega) (by decide) (by decide) (by decide) (by decide) (by decide)))) od_addI) e_int od_addI) ea_nil) cd_int)) e_int (od_modI (by decide))) fun d hd => ?_
    subst hd
    exact ⟨_, _, rfl, (fmod_lt (by decide)).1, by have := (fmod_lt (i := m * 40692 + z.fmod 999983 * 617 + 71) (j := 2147483399) (by decide)).2; omega⟩
  · obtain ⟨m, x, rfl, h0, h1⟩ := hm
    refine t_ret (e_lst1 (ds := [.lst (ns.map .int), .int 0, .int 0, .int m, .int 0]) (ea_c (EV.o1 ((e_cb1 (ea_c (EV.o1 (e_sl (e_var rfl) eo_none (eo_part e_int) sd_scr)) ea_nil) cd_list).imp fun e he => ?_)) (ea_c e_int (ea_c e_int (ea_c (e_var rfl) (ea_c e_int ea_nil))))) (by simp)) fun e he => by rw [he]; exact q m h0 h1
    rw [he, cut63 hn]

theorem ok_law_drawL (T : Txt K mg) : FnOk P w K mg base CX0 1 T.a_law_draw T.d_law_draw ["_law_bag_here", "_law_sides"] spDrawL := by
  refine T.F_law_draw.ok sc_law_draw (fun vs H Q E h => len_law_drawL h) (fun cdv A outer s H vs Q E hr h => ?_)
  have hu := hu64 hr
  refine ⟨_, (pss_cons (ps_asg (pe_op op_plus (pe_ix (ix_K (K := K) rfl) (pv 0) pe_int (fun _ _ => rfl)) pe_int) (pg_sub (pv 0) pe_int set_list)) (Evl.pss_cut (ps_if (PW.pt (pw_and (pt_cmpR (op_eqK (K := K) rfl hu) (pe_ix (ix_K (K := K) rfl) (pv 0) pe_int (fun _ _ => rfl)) pe_int (nomark _)) (pw_and1 (pt_cmpR op_lt (pe_ix (ix_K (K := K) rfl) (pv 0) pe_int (fun _ _ => rfl)) (pe_callB (call_lenK (K := K) rfl) (by rfl) T.n_len (by decide +kernel) (pa_cons (pe_ix (ix_K (K := K) rfl) (pv 0) pe_int (fun _ _ => rfl)) pa_nil)) (nomark _))))) (pss_cons (ps_set (i := 2) sc_law_draw.nd rfl (Or.inl rfl) (pe_callB call_absI (by rfl) T.n_abs (by decide +kernel) (pa_cons (pe_callTy call_intI (by rfl) T.n_int (by decide +kernel) (pa_cons (pe_ix (ix_K (K := K) rfl) (pe_ix (ix_K (K := K) rfl) (pv 0) pe_int (fun _ _ => rfl)) (pe_ix (ix_K (K := K) rfl) (pv 0) pe_int (fun _ _ => rfl)) (fun _ _ => rfl)) pa_nil)) pa_nil))) (pss_cons (ps_asg (pe_op op_plus (pe_ix (ix_K (K := K) rfl) (pv 0) pe_int (fun _ _ => rfl)) pe_int) (pg_sub (pv 0) pe_int set_list)) (pss_one (ps_if (pt_cmpR op_ge (pv 2) (pe_op op_pow pe_int pe_int) (nomark _)) (pss_one (ps_asg (pv 2) (pg_sub (pv 0) pe_int set_list))) (pss_one (ps_asg (pe_op op_modN (pe_callTy call_intI (by rfl) T.n_int (by decide +kernel) (pa_cons (pe_op op_plus (pe_op op_plus (pe_op op_times (pe_ix (ix_K (K := K) rfl) (pv 0) pe_int (fun _ _ => rfl)) pe_int) (pe_op op_times (pe_op op_modN (pv 2) pe_int) pe_int)) pe_int) pa_nil)) pe_int) (pg_sub (pv 0) pe_int set_list))))))) pss_nil) (pss_cons (ps_if (pt_cmpR op_gt (pe_ix (ix_K (K := K) rfl) (pv 0) pe_int (fun _ _ => rfl)) pe_int (nomark _)) (pss_cons (ps_set (i := 3) sc_law_draw.nd rfl (Or.inl rfl) (pe_op op_modN (pe_callTy call_intI (by rfl) T.n_int (by decide +kernel) (pa_cons (pe_ix (ix_K (K := K) rfl) (pv 0) pe_int (fun _ _ => rfl)) pa_nil)) (pv 1))) (pss_cons (ps_asg (pe_op op_fdivW (pe_ix (ix_K (K := K) rfl) (pv 0) pe_int (fun _ _ => rfl)) (pv 1)) (pg_sub (pv 0) pe_int set_list)) (pss_one (ps_ret (pv 3))))) pss_nil) (pss_cons (ps_set (i := 4) sc_law_draw.nd rfl (Or.inl rfl) (pe_callTy call_intI (by rfl) T.n_int (by decide +kernel) (pa_cons (pe_ix (ix_K (K := K) rfl) (pv 0) pe_int (fun _ _ => rfl)) pa_nil))) (pss_cons (ps_asg (pe_op op_modN (pe_callTy call_intI (by rfl) T.n_int (by decide +kernel) (pa_cons (pe_op op_plus (pe_op op_plus (pe_op op_plus (pe_op op_times (pe_op op_times (pv 4) (pv 4)) pe_int) (pe_op op_times (pv 4) pe_int)) (pe_op op_times (pe_ix (ix_K (K := K) rfl) (pv 0) pe_int (fun _ _ => rfl)) pe_int)) pe_int) pa_nil)) pe_int) (pg_sub (pv 0) pe_int set_list)) (pss_one (ps_ret (pe_op op_modN (pe_callTy call_intI (by rfl) T.n_int (by decide +kernel) (pa_cons (pe_op op_plus (pe_op op_fdivW (pe_ix (ix_K (K := K) rfl) (pv 0) pe_int (fun _ _ => rfl)) pe_int) (pe_op op_times (pe_op op_modN (pe_callTy call_intI (by rfl) T.n_int (by decide +kernel) (pa_cons (pe_ix (ix_K (K := K) rfl) (pv 0) pe_int (fun _ _ => rfl)) pa_nil)) pe_int) pe_int)) pa_nil)) (pv 1))))))))), ?_⟩
  obtain ⟨b, c, k, i, r, m, n, ns, rfl, hb, hc, hk, hk2, h1, h2, h3, h4, q⟩ := h
  have hbc : c ≠ b := fun e => by
    rw [e, hb] at hc
    have h5 := HO.lst.inj (Option.some.inj hc)
    cases ns with
    | nil => cases h5
    | cons z ns => cases h5
  have hcu : ∀ {o : HO}, (upd H b o) c = some (.lst (ns.map .int)) := by intro o; rw [upd_ne hbc]; exact hc
  -- bag[4] = bag[4] + 1
  refine st_set (k := 4) (vl_add (vl_ix (k := 4) (vl_var rfl) vl_c hb rfl) vl_c) (vl_var rfl) vl_c hb (show 4 < 5 by decide) ?_
  -- the first if
  refine ⟨fun σ' H' => ∃ i' r' m' n' x2, σ' = [some (.ref b), some (.int k), x2, none, none] ∧ H' = upd H b (bagL c i' r' m' n') ∧ 0 ≤ i' ∧ 0 ≤ r' ∧ 0 ≤ m' ∧ m' < 2147483648, ?_, fun σ' H' hm => ?_⟩
  · refine st_if (vt_and (vt_eq (vl_ix (k := 2) (vl_var rfl) vl_c upd_same rfl) vl_c) (vt_lt (vl_ix (k := 1) (vl_var rfl) vl_c upd_same rfl) (vl_len (vl_ix (k := 0) (vl_var rfl) vl_c upd_same rfl) hcu))) (fun e => ?_) (fun e => ?_)
    · rw [Bool.and_eq_true, decide_eq_true_eq, decide_eq_true_eq, List.length_map] at e
      have hil : i.toNat < ns.length := by omega
      have hiN : ((i.toNat : Nat) : Int) = i := by omega
      have hz : (ns.map V.int)[i.toNat]? = some (.int ns[i.toNat]) := by rw [List.getElem?_map, List.getElem?_eq_getElem hil]; rfl
      refine st_name (vl_abs (vl_int (vl_ix (k := i.toNat) (vl_ix (k := 0) (vl_var rfl) vl_c upd_same rfl) (by rw [hiN]; exact vl_ix (k := 1) (vl_var rfl) vl_c upd_same rfl) hcu hz))) ?_
      generalize hp : (if ns[i.toNat] < 0 then -ns[i.toNat] else ns[i.toNat]) = p
      have hp0 : 0 ≤ p := by rw [← hp]; split <;> omega
      refine st_set (k := 1) (vl_add (vl_ix (k := 1) (vl_var rfl) vl_c upd_same rfl) vl_c) (vl_var rfl) vl_c upd_same (show 1 < 5 by decide) ?_
      rw [upd_upd]
      refine st_if (vt_ge (vl_var rfl) (vl_pow vl_c vl_c ⟨by decide, by decide, by decide⟩)) (fun e2 => ?_) (fun e2 => ?_)
      · refine st_set (k := 2) (vl_var rfl) (vl_var rfl) vl_c upd_same (show 2 < 5 by decide) ?_
        rw [upd_upd]
        exact ⟨i + 1, p, m, n + 1, _, rfl, rfl, by omega, hp0, h3, h4⟩
      · have f1 := fmod_lt (i := p) (j := 999983) (by decide)
        refine st_set (k := 3) (vl_mod (vl_int (vl_add (vl_add (vl_mul (vl_ix (k := 3) (vl_var rfl) vl_c upd_same rfl) vl_c (mulS (a := 31) (b := 16) h3 (by omega) (by decide) (by decide) (by decide) (by decide) (by decide))) (vl_mul (vl_mod (vl_var rfl) vl_c (by decide)) vl_c (mulS (a := 20) (b := 10) f1.1 (by omega) (by decide) (by decide) (by decide) (by decide) (by decide)))) vl_c)) vl_c (by decide)) (vl_var rfl) vl_c upd_same (show 3 < 5 by decide) ?_
        rw [upd_upd]
        have f2 := fmod_lt (i := m * 39373 + p.fmod 999983 * 823 + 37) (j := 2147483563) (by decide)
        exact ⟨i + 1, r, _, n + 1, _, rfl, rfl, by omega, h2, f2.1, by omega⟩
    · exact ⟨i, r, m, n + 1, none, rfl, rfl, h1, h2, h3, h4⟩
  · obtain ⟨i', r', m', n', x2, rfl, rfl, g1, g2, g3, g4⟩ := hm
    refine st_if (vt_gt (vl_ix (k := 2) (vl_var rfl) vl_c upd_same rfl) vl_c) (fun e => ?_) (fun e => ?_)
    · have f1 := fmod_lt (i := r') (j := k) (by omega)
      have hne : k ≠ 0 := by omega
      have hdv : 0 ≤ r' / k := Int.ediv_nonneg g2 (by omega)
      refine st_name (vl_mod (vl_int (vl_ix (k := 2) (vl_var rfl) vl_c upd_same rfl)) (vl_var rfl) hne) ?_
      refine st_set (k := 2) (vl_div (vl_ix (k := 2) (vl_var rfl) vl_c upd_same rfl) (vl_var rfl) ⟨by omega, hk2⟩) (vl_var rfl) vl_c upd_same (show 2 < 5 by decide) ?_
      rw [upd_upd]
      exact vl_var rfl _ (q _ i' (r' / k) m' n' f1.1 f1.2 g1 hdv g3 g4)
    · refine st_name (vl_int (vl_ix (k := 3) (vl_var rfl) vl_c upd_same rfl)) ?_
      have hm2 : 0 ≤ m' * m' := Int.mul_nonneg g3 g3
      have hm3 : m' * m' < 2 ^ 62 := by
        have : m' * m' ≤ 2147483647 * 2147483647 := Int.mul_le_mul (by omega) (by omega) g3 (by decide)
        omega
      refine st_set (k := 3) (vl_mod (vl_int (vl_add (vl_add (vl_add (vl_mul (vl_mul (vl_var rfl) (vl_var rfl) (mulS (a := 31) (b := 31) g3 (by omega) g3 (by omega) (by decide) (by decide) (by decide))) vl_c (mulS (a := 62) (b := 5) hm2 hm3 (by decide) (by decide) (by decide) (by decide) (by decide))) (vl_mul (vl_var rfl) vl_c (mulS (a := 31) (b := 16) g3 (by omega) (by decide) (by decide) (by decide) (by decide) (by decide)))) (vl_mulN (vl_ix (k := 4) (vl_var rfl) vl_c upd_same rfl) vl_c (.inr ⟨by decide, by decide⟩))) vl_c)) vl_c (by decide)) (vl_var rfl) vl_c upd_same (show 3 < 5 by decide) ?_
      rw [upd_upd]
      have f2 := fmod_lt (i := m' * m' * 23 + m' * 46021 + n' * 104729 + 60013) (j := 2147483543) (by decide)
      generalize (m' * m' * 23 + m' * 46021 + n' * 104729 + 60013).fmod 2147483543 = m2 at f2
      have f3 := fmod_lt (i := m2) (j := 8009) (by decide)
      have hkz : k ≠ 0 := by omega
      have f4 := fun x => fmod_lt (i := x) (j := k) (by omega)
      refine vl_mod (vl_int (vl_add (vl_div (vl_ix (k := 3) (vl_var rfl) vl_c upd_same rfl) vl_c ⟨by decide, by decide⟩) (vl_mul (vl_mod (vl_int (vl_ix (k := 3) (vl_var rfl) vl_c upd_same rfl)) vl_c (by decide)) vl_c (mulS (a := 13) (b := 6) f3.1 (by omega) (by decide) (by decide) (by decide) (by decide) (by decide))))) (vl_var rfl) hkz _ ?_
      exact q _ i' r' m2 n' (f4 _).1 (f4 _).2 g1 g2 f2.1 (by omega)


theorem ints_of {H : Hp} : ∀ {ns : List Int} {vs : List V}, Reps H (ns.map D.int) vs → vs = ns.map V.int
  | [], _, .nil => rfl
  | n :: ns, _, .cons h r => by cases h; rw [ints_of r]; rfl
theorem Rty.refl (H : Hp) : Rty H H := ⟨fun _ h => h, fun _ _ h => h, fun _ _ _ h => h, fun _ _ h => h⟩
theorem ok_law_bag (T : Txt K mg) : FnOk P w K mg base CX0 1 T.a_law_bag T.d_law_bag ["_law_script"] (SpE (Rg_law_bag K)) := by
  refine fn_rty (ok_law_bagL T) (fun vs H Q E h => spE_len h len_law_bag') fun vs H Q E hp h ok => ?_
  obtain ⟨W, ds, P1, rfl, r, ⟨ns, rfl, hn, q⟩, k⟩ := h
  refine ⟨W.h, Rty.refl _, ok, W, _, fun e => ∃ m : Int, 0 ≤ m ∧ m < 2147483648 ∧ e = .own [.lst (ns.map .int), .int 0, .int 0, .int m, .int 0], rfl, r, ⟨ns, rfl, hn, fun m h0 h1 => ⟨m, h0, h1, rfl⟩⟩, fun v e W' g rv pe hp' ok' => ?_⟩
  obtain ⟨m, h0, h1, rfl⟩ := pe
  obtain ⟨l, vs', rfl, e1, e2, e3, e4⟩ := rv
  cases e4 with
  | cons ra e4 => cases e4 with
    | cons rb e4 => cases e4 with
      | cons rc e4 => cases e4 with
        | cons rd e4 => cases e4 with
          | cons re e4 =>
            cases e4
            cases rb; cases rc; cases rd; cases re
            cases ra with
            | lst hc rc =>
              rename_i c ws
              have hw := ints_of rc
              subst hw
              obtain ⟨t, ok2⟩ := bag_in ok' e1 (Int.le_refl 0) (Int.le_refl 0) h0 h1
              refine ⟨_, t, ok2, ?_⟩
              have hcl : c ≠ l := fun z => by rw [z, e2] at hc; cases hc
              exact k (.ref l) (.dat .bag) ⟨upd W'.b l (bagO l c), upd W'.h l (bagO l c), W'.le.two⟩ ⟨g.b.tr (Ex.nw e2), fun a o e => by
                show upd W'.h l _ a = some o
                rw [upd_ne (ne_of_none e e3)]; exact g.h _ _ e, fun a q1 q2 => by
                show upd W'.b l _ a = none
                rw [upd_ne (fun z => q2 (by rw [z]; exact e3))]; exact g.nw a q1 q2⟩ (.bag upd_same (by
                show upd W'.b l _ c = _
                rw [upd_ne hcl]; exact hc) hn) q
def Rg_law_draw (ds : List D) (P : En → Prop) : Prop := ∃ k : Int, ds = [.bag, .int k] ∧ 1 ≤ k ∧ k.natAbs.log2 < 9000 ∧ ∀ j, 0 ≤ j → j < k → P (.dat (.int j))
theorem len_law_draw (ds P) (h : Rg_law_draw ds P) : ds.length = 2 := by unfold Rg_law_draw at h; obtain ⟨_, rfl, _⟩ := h; rfl
theorem ok_law_draw (T : Txt K mg) : FnOk P w K mg base CX0 1 T.a_law_draw T.d_law_draw ["_law_bag_here", "_law_sides"] (SpE Rg_law_draw) := by
  refine fn_rty (ok_law_drawL T) (fun vs H Q E h => spE_len h len_law_draw) fun vs H Q E hp h ok => ?_
  obtain ⟨W, ds, P1, rfl, r, ⟨k, rfl, hk, hk2, q⟩, kk⟩ := h
  cases r with
  | cons ra r => cases r with
    | cons rb r =>
      cases r
      cases rb
      cases ra with
      | bag hb hc hn =>
        rename_i b c ns
        obtain ⟨i, r, m, n, h1, h2, h3, h4, t, ok1⟩ := bag_out ok (W.le _ _ hb)
        have hcb : c ≠ b := fun z => by
          rw [z, hb] at hc
          exact bag_ne (u := .lst (ns.map V.int)) (fun _ z => nomatch z) (Option.some.inj hc)
        refine ⟨_, t, ok1, b, c, k, i, r, m, n, ns, rfl, upd_same, by rw [upd_ne hcb]; exact W.le _ _ hc, hk, hk2, h1, h2, h3, h4, fun j i' r' m' n' j0 j1 a1 a2 a3 a4 hp' ok' => ?_⟩
        obtain ⟨t2, ok2⟩ := bag_in ok' upd_same a1 a2 a3 a4
        refine ⟨_, t2, ok2, ?_⟩
        have e : upd (upd (upd W.h b (bagL c i r m n)) b (bagL c i' r' m' n')) b (bagO b c) = W.h := by
          rw [upd_upd, upd_upd]
          funext a
          by_cases z : a = b
          · rw [z, upd_same, W.le _ _ hb]
          · rw [upd_ne z]
        rw [e]
        exact kk (.int j) (.dat (.int j)) W (Grow.refl W) (.int j) (q j j0 j1)
/-- things that are drawn from -/
inductive Src : D → List D → Prop where
  | lst (ds : List D) : Src (.lst ds) ds
  | str (s : List Nat) : Src (.str s) (chs s)
def Rg_law_of (ds : List D) (P : En → Prop) : Prop := ∃ (x : D) (xs : List D), ds = [.bag, x] ∧ Src x xs ∧ 1 ≤ xs.length ∧ xs.length ≤ 1000 ∧ ∀ d ∈ xs, P (.dat d)
theorem len_law_of (ds P) (h : Rg_law_of ds P) : ds.length = 2 := by unfold Rg_law_of at h; obtain ⟨_, _, rfl, _⟩ := h; rfl
theorem log_small {n : Nat} (h : n ≤ 1000) : ((n : Int)).natAbs.log2 < 9000 := by
  rw [Int.natAbs_natCast]
  have := Nat.log2_le_self n
  omega

theorem ok_law_of (T : Txt K mg) (G_law_draw : FnOk P w K mg base CX0 1 T.a_law_draw T.d_law_draw ["_law_bag_here", "_law_sides"] (SpE Rg_law_draw)) : FnOk P w K mg base CX0 2 T.a_law_of T.d_law_of ["_law_bag_here", "_law_things"] (SpE Rg_law_of) := by
  refine T.F_law_of.ok sc_law_of (fun vs H Q E h => spE_len h len_law_of) (fun cdv A outer s H vs Q E hr h => ?_)
  have hu := hu64 hr
  have hvl : vs.length = 2 := spE_len h len_law_of
  refine ⟨_, (pss_one (ps_ret (pe_ix (ix_K (K := K) rfl) (pv 1) (pe_call G_law_draw (hr.mono (by decide)) (by rfl) T.g_law_draw T.F_law_draw.kp (b_law_draw T) .nil pass0 (pa_cons (pv 0) (pa_cons (pe_callB (call_lenK (K := K) rfl) (by rfl) T.n_len (by decide +kernel) (pa_cons (pv 1) pa_nil)) pa_nil))) (fun _ _ => rfl)))), fn_body h (by rw [hvl]; decide) (fun ds R hR hl => ?_)⟩
  obtain ⟨x, xs, rfl, hx, h1, h2, q⟩ := hR
  have hlen : CD (rLenU K) [x] (· = .dat (.int (xs.length : Nat))) := by
    cases hx with
    | lst => exact cd_lenL
    | str s =>
      have e : (chs s).length = s.length := by simp [chs]
      rw [e] at h2 ⊢
      exact cd_lenS (by omega)
  refine t_ret (P := fun e => ∃ d, d ∈ xs ∧ e = .dat d) (e_op (PA := fun d => d = x) (PB := fun d => ∃ j : Nat, j < xs.length ∧ d = .int j) (e_var rfl) (EV.ed (R := fun e => ∃ j : Nat, j < xs.length ∧ e = .dat (.int j)) (e_callP (ea_c (e_var rfl) (ea_c (EV.d1 (e_cb1 (ea_c (e_var rfl) ea_nil) hlen)) ea_nil)) fun ds e => by rw [e]; exact ⟨(xs.length : Nat), rfl, by omega, log_small h2, fun j j0 j1 => ⟨j.toNat, by omega, by rw [show ((j.toNat : Nat) : Int) = j by omega]⟩⟩) fun e ⟨j, hj, he⟩ => ⟨.int j, by rw [he]; rfl, j, hj, rfl⟩) fun a b ha hb => ?_) fun e ⟨d, hd, he⟩ => by rw [he]; exact q d hd
  obtain ⟨j, hj, rfl⟩ := hb
  subst ha
  cases hx with
  | lst =>
    intro W v w r1 r2 Q q2
    exact od_ixL (K := K) (j := j) rfl (List.getElem?_eq_getElem hj) W v w r1 r2 Q fun u e W' g r p => q2 u e W' g r ⟨_, List.getElem_mem hj, p⟩
  | str s =>
    have e : (chs s).length = s.length := by simp [chs]
    have hj' : j < s.length := by omega
    intro W v w r1 r2 Q q2
    refine od_ixS (K := K) (j := j) rfl (List.getElem?_eq_getElem hj') (by omega) W v w r1 r2 Q fun u e W' g r p => q2 u e W' g r ⟨_, ?_, p⟩
    exact List.mem_map.mpr ⟨_, List.getElem_mem hj', rfl⟩

end
end Nt

namespace Nt
open PySem PySem.Spec PyProof.Rows L2


def jn (x y : List Nat) : List Nat := (x.zip y).map fun p => if 43 ∈ [p.1, p.2] then 43 else 46
def frs (s t : List Nat) : List Nat := (List.range s.length).filter fun k => !decide (s.getD k 0 = 46) && decide (t.getD k 0 = 46)
def fitsB (s r t : List Nat) : Bool := (!(frs s t).isEmpty) && ((frs s t).filter fun k => !decide (r.getD k 0 = s.getD k 0)).isEmpty
theorem mem_frs {s t : List Nat} {i : Nat} : i ∈ frs s t ↔ i ∈ outs s t := by
  unfold frs
  rw [List.mem_filter, List.mem_range, mem_outs]
  simp only [Bool.and_eq_true, Bool.not_eq_true', decide_eq_false_iff_not, decide_eq_true_eq]
  constructor
  · rintro ⟨h1, h2, h3⟩
    exact ⟨_, get_of_lt h1, h2, h3⟩
  · rintro ⟨c, h1, h2, h3⟩
    refine ⟨(List.getElem?_eq_some_iff.mp h1).1, ?_, h3⟩
    rw [getD_of h1]; exact h2
theorem fits_canT (s r t : List Nat) : fitsB s r t = canT s t r := by
  have e1 : canT s t r = true ↔ fitsB s r t = true := by
    unfold fitsB
    rw [Bool.and_eq_true, Bool.not_eq_true', List.isEmpty_eq_false_iff, List.isEmpty_iff, List.filter_eq_nil_iff]
    constructor
    · intro h
      obtain ⟨i, hi⟩ := canT_outs h
      refine ⟨List.ne_nil_of_mem (mem_frs.mpr hi), fun j hj => ?_⟩
      rw [bars_nil h j (mem_frs.mp hj)]; simp
    · rintro ⟨h1, h2⟩
      obtain ⟨i, hi⟩ := List.exists_mem_of_ne_nil _ h1
      refine canT_of ⟨i, mem_frs.mp hi⟩ fun j hj => ?_
      have := h2 j (mem_frs.mpr hj)
      simpa using this
  cases h1 : fitsB s r t <;> cases h2 : canT s t r
  · rfl
  · rw [e1.mp h2] at h1; cases h1
  · rw [e1.mpr h1] at h2; cases h2
  · rfl
/-- lots alone -/
def Bin (t : List Nat) : Prop := ∀ c ∈ t, c = 46 ∨ c = 43
theorem bin_lot (s : List Nat) : Bin (lotOf s) := by
  intro c h
  unfold lotOf at h
  obtain ⟨a, _, rfl⟩ := List.mem_map.mp h
  by_cases e : a = 46
  · rw [if_pos e]; exact .inl rfl
  · rw [if_neg e]; exact .inr rfl
theorem bin_rep (n : Nat) : Bin (List.replicate n 46) := fun c h => .inl (List.eq_of_mem_replicate h)
theorem bin_ov {x y : List Nat} (hx : Bin x) (hy : Bin y) : Bin (ov x y) := by
  intro c h
  unfold ov at h
  obtain ⟨p, hp, rfl⟩ := List.mem_map.mp h
  obtain ⟨i, hi⟩ := List.mem_iff_getElem?.mp hp
  obtain ⟨a, b⟩ := zip_get hi
  by_cases e : p.1 = 46
  · rw [if_pos e]; exact hy _ (List.mem_of_getElem? b)
  · rw [if_neg e]; exact hx _ (List.mem_of_getElem? a)
theorem jn_ov {x y : List Nat} (hx : Bin x) (hy : Bin y) : jn x y = ov x y := by
  unfold jn ov
  apply List.map_congr_left
  intro p hp
  obtain ⟨i, hi⟩ := List.mem_iff_getElem?.mp hp
  obtain ⟨a, b⟩ := zip_get hi
  rcases hx _ (List.mem_of_getElem? a) with h1 | h1 <;> rcases hy _ (List.mem_of_getElem? b) with h2 | h2 <;> rw [h1, h2] <;> decide
theorem run_bin {S : List (List Nat)} {r t : List Nat} {tk : List (List Nat)} (h : Run S r tk t) : Bin t := by
  induction h with
  | nil => exact bin_rep _
  | snoc _ _ _ ih => exact bin_ov ih (bin_lot _)
theorem fin_of_dots {S : List (List Nat)} {r t : List Nat} (h : dots t = 0) (hl : ∀ s ∈ S, s.length = t.length) : Fin S r t := by
  intro s hs
  cases hc : canT s t r with
  | false => rfl
  | true =>
    have := ov_lot_dots (hl s hs) hc
    omega
abbrev Rg_law_lay := Rg_over
abbrev Rg_law_lot := Rg_lot_of
def Rg_law_join (ds : List D) (P : En → Prop) : Prop := ∃ x y, ds = [.str x, .str y] ∧ x.length ≤ 1000 ∧ P (.dat (.str (jn x y)))
def Rg_law_blank (ds : List D) (P : En → Prop) : Prop := ∃ xs : List D, ds = [.lst xs] ∧ xs.length ≤ 1000 ∧ P (.dat (.str (List.replicate xs.length 46)))
def Rg_law_fresh (ds : List D) (P : En → Prop) : Prop := ∃ s t : List Nat, ds = [.str s, .str t] ∧ s.length = t.length ∧ s.length ≤ 1000 ∧ P (.own ((frs s t).map fun (i : Nat) => .int i))
def Rg_law_fits (ds : List D) (P : En → Prop) : Prop := ∃ s r t : List Nat, ds = [.str s, .str r, .str t] ∧ s.length = t.length ∧ s.length = r.length ∧ s.length ≤ 1000 ∧ P (.dat (.bl (canT s t r)))
def Rg_law_last_first (ds : List D) (P : En → Prop) : Prop := ∃ (S : List (List Nat)) (r : List Nat), ds = [.lst (S.map .str), .str r] ∧ S.length ≤ 1000 ∧ Len r.length S ∧ r.length ≤ 1000 ∧ ∀ tk t, Run S r tk t → Fin S r t → P (.dat (.str t))
/-- what come gives -/
def paper (r : List Nat) (tk : List (List Nat)) (bs : List D) (e : D) : List D := lRow r :: tk.map lTake ++ bs ++ [e]
def Rg_law_takes (ds : List D) (P : En → Prop) : Prop := ∃ (r : List Nat) (tk : List (List Nat)) (bs : List D) (e : D), ds = [.lst (paper r tk bs e)] ∧ (∀ b ∈ bs, isBar b) ∧ (e = lMade ∨ e = lBarred) ∧ tk.length ≤ 1000 ∧ bs.length ≤ 1000 ∧ P (.own (tk.map .str))
def Rg_law_end (ds : List D) (P : En → Prop) : Prop := ∃ (r : List Nat) (tk : List (List Nat)) (bs : List D) (e : D), ds = [.lst (paper r tk bs e)] ∧ P (.dat e)
theorem len_law_lay (ds P) (h : Rg_law_lay ds P) : ds.length = 2 := len_over ds P h
theorem len_law_lot (ds P) (h : Rg_law_lot ds P) : ds.length = 1 := len_lot_of ds P h
theorem len_law_join (ds P) (h : Rg_law_join ds P) : ds.length = 2 := by obtain ⟨_, _, rfl, _⟩ := h; rfl
theorem len_law_blank (ds P) (h : Rg_law_blank ds P) : ds.length = 1 := by obtain ⟨_, rfl, _⟩ := h; rfl
theorem len_law_fresh (ds P) (h : Rg_law_fresh ds P) : ds.length = 2 := by obtain ⟨_, _, rfl, _⟩ := h; rfl
theorem len_law_fits (ds P) (h : Rg_law_fits ds P) : ds.length = 3 := by obtain ⟨_, _, _, rfl, _⟩ := h; rfl
theorem len_law_last_first (ds P) (h : Rg_law_last_first ds P) : ds.length = 2 := by obtain ⟨_, _, rfl, _⟩ := h; rfl
theorem len_law_takes (ds P) (h : Rg_law_takes ds P) : ds.length = 1 := by obtain ⟨_, _, _, _, rfl, _⟩ := h; rfl
theorem len_law_end (ds P) (h : Rg_law_end ds P) : ds.length = 1 := by obtain ⟨_, _, _, _, rfl, _⟩ := h; rfl
/-- the take lines -/
def isTk : D → Bool
  | .tup [.str w, _] => decide (w = [116, 97, 107, 101])
  | _ => false
def sec : D → D
  | .tup [_, y] => y
  | d => d
theorem takes_paper {r : List Nat} {tk : List (List Nat)} {bs : List D} {e : D} (hb : ∀ b ∈ bs, isBar b) (he : e = lMade ∨ e = lBarred) : ((paper r tk bs e).filter isTk).map sec = tk.map .str := by
  unfold paper
  have h1 : (tk.map lTake).filter isTk = tk.map lTake := List.filter_eq_self.mpr fun d hd => by
    obtain ⟨s, _, rfl⟩ := List.mem_map.mp hd
    rfl
  have h2 : bs.filter isTk = [] := List.filter_eq_nil_iff.mpr fun d hd => by
    obtain ⟨a, b, c, rfl⟩ := hb d hd
    simp [isTk]
  have h3 : [e].filter isTk = [] := by rcases he with h | h <;> subst h <;> rfl
  have h4 : isTk (lRow r) = false := by
    show decide ([114, 111, 119] = [116, 97, 107, 101]) = false
    decide
  rw [List.filter_append, List.filter_append, List.filter_cons, h4, if_neg (by decide), h1, h2, h3, List.append_nil, List.append_nil, List.map_map]
  rfl
/-- a line of a paper, told by its length -/
theorem paper_line {r : List Nat} {tk : List (List Nat)} {bs : List D} {e : D} (hb : ∀ b ∈ bs, isBar b) (he : e = lMade ∨ e = lBarred) {d : D} (hd : d ∈ paper r tk bs e) : ∃ xs, d = .tup xs ∧ ((xs.length = 2 ∧ ∃ w y, xs = [.str w, y] ∧ isTk d = decide (w = [116, 97, 107, 101])) ∨ (xs.length ≠ 2 ∧ isTk d = false)) := by
  unfold paper at hd
  rw [List.mem_append, List.mem_append, List.mem_cons] at hd
  rcases hd with ((h | h) | h) | h
  · subst h; exact ⟨_, rfl, .inl ⟨rfl, _, _, rfl, rfl⟩⟩
  · obtain ⟨s, _, rfl⟩ := List.mem_map.mp h
    exact ⟨_, rfl, .inl ⟨rfl, _, _, rfl, rfl⟩⟩
  · obtain ⟨a, b, c, rfl⟩ := hb d h
    exact ⟨_, rfl, .inr ⟨by simp, by simp [isTk]⟩⟩
  · rw [List.mem_singleton.mp h]
    rcases he with h | h <;> subst h <;> exact ⟨_, rfl, .inr ⟨by simp, rfl⟩⟩
section
variable {P : Program} {w : World} {K : PySem.W.Frag} {mg : Str → Option Value} {base : Heap}
theorem ok_law_lay (T : Txt K mg)  : FnOk P w K mg base CX0 1 T.a_law_lay T.d_law_lay ["_law_newer_row", "_law_older_row"] (SpE Rg_law_lay) := by
  refine T.F_law_lay.ok sc_law_lay (fun vs H Q E h => spE_len h len_law_lay) (fun cdv A outer s H vs Q E hr h => ?_)
  have hu := hu64 hr
  have hvl : vs.length = 2 := spE_len h len_law_lay
  refine ⟨_, (pss_one (ps_ret (pe_joinK (K := K) rfl pe_str (pe_lc (own := [("_law_x", 2), ("_law_y", 3)]) (g := gTup K 2 (gCons (gName 2) (gCons (gName 3) gNil))) (tt := tYes) rfl sc_law_lay.nd (pi_zipK (K := K) rfl (by rfl) T.n_zip (pa_cons (pv 0) (pa_cons (pv 1) pa_nil))) (blkOk_by (N := N_law_lay) (sc := defScope s_law_lay) (by decide +kernel)) (fun _ _ _ _ _ => (pg_tup rfl (pgs_cons (pg_name (i := 2) sc_law_lay.nd rfl (Or.inl rfl)) (pgs_cons (pg_name (i := 3) sc_law_lay.nd rfl (Or.inl rfl)) pgs_nil)))) (fun _ _ _ _ _ => pts_nil) (fun _ _ _ _ _ => (pe_ifExp (pt_cmpR (op_eqK (K := K) rfl hu) (pv 2) pe_str (nomark _)) (pv 3) (pv 2))))))), fn_body h (by rw [hvl]; decide) (fun ds R hR hl => ?_)⟩
  obtain ⟨x, y, rfl, hx, q⟩ := hR
  refine t_ret1 (e_joinc (f := fun p : Nat × Nat => if p.1 = 46 then p.2 else p.1) (e_str rfl) (lc2_map (by decide) (iv_zipS (ea_c (e_var rfl) (ea_c (e_var rfl) ea_nil))) (by rw [List.length_zip]; omega) fun i p hp => ?_) (by rw [List.length_zip]; omega)) q
  refine (e_ifc (et_eqS (e_var rfl) (e_str (s := [46]) (by decide +kernel))) (fun _ => e_var rfl) (fun _ => e_var rfl)).is ?_
  by_cases h : p.1 = 46
  · rw [if_pos (by rw [h]), if_pos h]; rfl
  · rw [if_neg (fun z => h (List.cons.inj z).1), if_neg h]; rfl

theorem ok_law_lot (T : Txt K mg)  : FnOk P w K mg base CX0 1 T.a_law_lot T.d_law_lot ["_law_r"] (SpE Rg_law_lot) := by
  refine T.F_law_lot.ok sc_law_lot (fun vs H Q E h => spE_len h len_law_lot) (fun cdv A outer s H vs Q E hr h => ?_)
  have hu := hu64 hr
  have hvl : vs.length = 1 := spE_len h len_law_lot
  refine ⟨_, (pss_one (ps_ret (pe_joinK (K := K) rfl pe_str (pe_lc (own := [("_law_sign", 1)]) (g := gName 1) (tt := tYes) rfl sc_law_lot.nd (pi_str (pv 0)) (blkOk_by (N := N_law_lot) (sc := defScope s_law_lot) (by decide +kernel)) (fun _ _ _ _ _ => (pg_name (i := 1) sc_law_lot.nd rfl (Or.inl rfl))) (fun _ _ _ _ _ => pts_nil) (fun _ _ _ _ _ => (pe_ifExp (pt_cmpR (op_eqK (K := K) rfl hu) (pv 1) pe_str (nomark _)) pe_str pe_str)))))), fn_body h (by rw [hvl]; decide) (fun ds R hR hl => ?_)⟩
  obtain ⟨x, rfl, hx, q⟩ := hR
  refine t_ret1 (e_joinc (f := fun c : Nat => if c = 46 then 46 else 43) (e_str rfl) (lc1_map (iv_strS (e_var rfl)) (by omega) fun i c hc => ?_) (by omega)) q
  refine (e_ifc (et_eqS (e_var rfl) (e_str (s := [46]) (by decide +kernel))) (fun _ => e_str (s := [46]) (by decide +kernel)) (fun _ => e_str (s := [43]) (by decide +kernel))).is ?_
  by_cases h : c = 46
  · rw [if_pos (by rw [h]), if_pos h]
  · rw [if_neg (fun z => h (List.cons.inj z).1), if_neg h]

theorem ok_law_join (T : Txt K mg)  : FnOk P w K mg base CX0 1 T.a_law_join T.d_law_join ["_law_x", "_law_y"] (SpE Rg_law_join) := by
  refine T.F_law_join.ok sc_law_join (fun vs H Q E h => spE_len h len_law_join) (fun cdv A outer s H vs Q E hr h => ?_)
  have hu := hu64 hr
  have hvl : vs.length = 2 := spE_len h len_law_join
  refine ⟨_, (pss_one (ps_ret (pe_joinK (K := K) rfl pe_str (pe_lc (own := [("_law_a", 2), ("_law_b", 3)]) (g := gTup K 2 (gCons (gName 2) (gCons (gName 3) gNil))) (tt := tYes) rfl sc_law_join.nd (pi_zipK (K := K) rfl (by rfl) T.n_zip (pa_cons (pv 0) (pa_cons (pv 1) pa_nil))) (blkOk_by (N := N_law_join) (sc := defScope s_law_join) (by decide +kernel)) (fun _ _ _ _ _ => (pg_tup rfl (pgs_cons (pg_name (i := 2) sc_law_join.nd rfl (Or.inl rfl)) (pgs_cons (pg_name (i := 3) sc_law_join.nd rfl (Or.inl rfl)) pgs_nil)))) (fun _ _ _ _ _ => pts_nil) (fun _ _ _ _ _ => (pe_ifExp (pt_cmpR (op_inK (K := K) rfl) pe_str (pe_op op_plus (pv 2) (pv 3)) (by rfl)) pe_str pe_str)))))), fn_body h (by rw [hvl]; decide) (fun ds R hR hl => ?_)⟩
  obtain ⟨x, y, rfl, hx, q⟩ := hR
  refine t_ret1 (e_joinc (f := fun p : Nat × Nat => if 43 ∈ [p.1, p.2] then 43 else 46) (e_str rfl) (lc2_map (by decide) (iv_zipS (ea_c (e_var rfl) (ea_c (e_var rfl) ea_nil))) (by rw [List.length_zip]; omega) fun i p hp => ?_) (by rw [List.length_zip]; omega)) q
  refine (e_ifc (c := 43 ∈ [p.1, p.2]) (et_t1 (e_opd (e_str (s := [43]) (by decide +kernel)) (e_opd (x := .str [p.1]) (y := .str [p.2]) (e_var rfl) (e_var rfl) (od_addS (by simp))) (od_sgn (neg := false)))) (fun _ => e_str (s := [43]) (by decide +kernel)) (fun _ => e_str (s := [46]) (by decide +kernel))).is ?_
  by_cases h : 43 ∈ [p.1, p.2]
  · rw [if_pos h, if_pos h]
  · rw [if_neg h, if_neg h]


theorem ok_law_fresh (T : Txt K mg)  : FnOk P w K mg base CX0 1 T.a_law_fresh T.d_law_fresh ["_law_s", "_law_told"] (SpE Rg_law_fresh) := by
  refine T.F_law_fresh.ok sc_law_fresh (fun vs H Q E h => spE_len h len_law_fresh) (fun cdv A outer s H vs Q E hr h => ?_)
  have hu := hu64 hr
  have hvl : vs.length = 2 := spE_len h len_law_fresh
  refine ⟨_, (pss_one (ps_ret (pe_lc (own := [("_law_k", 2)]) (g := gName 2) (tt := _) rfl sc_law_fresh.nd (pi_range1 (by rfl) T.n_range (pa_cons (pe_callB (call_lenK (K := K) rfl) (by rfl) T.n_len (by decide +kernel) (pa_cons (pv 0) pa_nil)) pa_nil)) (blkOk_by (N := N_law_fresh) (sc := defScope s_law_fresh) (by decide +kernel)) (fun _ _ _ _ _ => (pg_name (i := 2) sc_law_fresh.nd rfl (Or.inl rfl))) (fun _ _ _ _ _ => (pts_one (PW.pt (pw_and (pt_cmpR (op_neK (K := K) rfl hu) (pe_ix (ix_K (K := K) rfl) (pv 0) (pv 2) (fun _ _ => rfl)) pe_str (nomark _)) (pw_and1 (pt_cmpR (op_eqK (K := K) rfl hu) (pe_ix (ix_K (K := K) rfl) (pv 1) (pv 2) (fun _ _ => rfl)) pe_str (nomark _))))))) (fun _ _ _ _ _ => (pv 2))))), fn_body h (by rw [hvl]; decide) (fun ds R hR hl => ?_)⟩
  obtain ⟨s, t, rfl, h1, h2, q⟩ := hR
  refine t_ret (P := fun e => e = .own ((frs s t).map fun (i : Nat) => .int i)) (lc1_filt (t := fun k => !decide (s.getD k 0 = 46) && decide (t.getD k 0 = 46)) (emb := fun (i : Nat) => D.int i) (f := fun (i : Nat) => .int i) (iv_rngN (ea_c (EV.d1 (e_cb1 (ea_c (e_var rfl) ea_nil) (cd_lenS (by omega)))) ea_nil) (by omega)) (by rw [List.length_range]; omega) (fun i k hk => ?_) (fun i p hp _ => e_var rfl)) fun e he => by rw [he]; exact q
  have hk' : k < s.length := List.mem_range.mp (List.mem_of_getElem? hk)
  refine (et_and1 (et_neS (e_opd (e_var rfl) (e_var rfl) (od_ixS (j := k) rfl (get_of_lt hk') (by omega))) (e_str (s := [46]) (by decide +kernel))) (fun _ => et_eqS (e_opd (e_var rfl) (e_var rfl) (od_ixS (j := k) rfl (get_of_lt (by omega)) (by omega))) (e_str (s := [46]) (by decide +kernel)))).is ?_
  rw [str1, str1]

theorem ok_law_fits (T : Txt K mg) (G_law_fresh : FnOk P w K mg base CX0 1 T.a_law_fresh T.d_law_fresh ["_law_s", "_law_told"] (SpE Rg_law_fresh)) : FnOk P w K mg base CX0 2 T.a_law_fits T.d_law_fits ["_law_s", "_law_r", "_law_told"] (SpE Rg_law_fits) := by
  refine T.F_law_fits.ok sc_law_fits (fun vs H Q E h => spE_len h len_law_fits) (fun cdv A outer s H vs Q E hr h => ?_)
  have hu := hu64 hr
  have hvl : vs.length = 3 := spE_len h len_law_fits
  refine ⟨_, (pss_cons (ps_set (i := 3) sc_law_fits.nd rfl (Or.inl rfl) (pe_call G_law_fresh (hr.mono (by decide)) (by rfl) T.g_law_fresh T.F_law_fresh.kp (b_law_fresh T) .nil pass0 (pa_cons (pv 0) (pa_cons (pv 2) pa_nil)))) (pss_one (ps_ret (pe_and (pe_cmpR (op_neK (K := K) rfl hu) (pv 3) (pe_lst pa_nil) (nomark _)) (pe_one (pe_cmpR (op_eqK (K := K) rfl hu) (pe_lc (own := [("_law_k", 4)]) (g := gName 4) (tt := _) rfl sc_law_fits.nd (pi_listK (K := K) rfl (pv 3)) (blkOk_by (N := N_law_fits) (sc := defScope s_law_fits) (by decide +kernel)) (fun _ _ _ _ _ => (pg_name (i := 4) sc_law_fits.nd rfl (Or.inl rfl))) (fun _ _ _ _ _ => (pts_one (pt_cmpR (op_neK (K := K) rfl hu) (pe_ix (ix_K (K := K) rfl) (pv 1) (pv 4) (fun _ _ => rfl)) (pe_ix (ix_K (K := K) rfl) (pv 0) (pv 4) (fun _ _ => rfl)) (nomark _)))) (fun _ _ _ _ _ => (pv 4))) (pe_lst pa_nil) (nomark _))))))), fn_body h (by rw [hvl]; decide) (fun ds R hR hl => ?_)⟩
  obtain ⟨s, r, t, rfl, h1, h2, h3, q⟩ := hR
  rw [← fits_canT] at q
  refine q_asgo (e_call0 (ea_c (e_var rfl) (ea_c (e_var rfl) ea_nil)) ⟨s, t, rfl, h1, h3, rfl⟩) ?_
  refine t_freeze (i := 3) (ds := (frs s t).map fun (i : Nat) => .int i) rfl ?_
  have okI : ∀ (l : List Nat), ∀ d ∈ l.map (fun (i : Nat) => D.int i), d.ok = true := fun l d hd => by
    obtain ⟨i, _, rfl⟩ := List.mem_map.mp hd
    rfl
  have emp : ∀ (l : List Nat), (l.map fun (i : Nat) => D.int i).isEmpty = l.isEmpty := fun l => by cases l <;> rfl
  refine t_ret1 (e_and (e_opd (e_var rfl) (EV.o1 (e_lst1 ea_nil (by decide))) (od_neN (okI _))) fun _ => e_opd (EV.o1 (lc1_filt (ds := frs s t) (t := fun k => !decide (r.getD k 0 = s.getD k 0)) (emb := fun (i : Nat) => D.int i) (f := fun (i : Nat) => .int i) (iv_list1 (e_var rfl)) (by have := List.length_filter_le (fun k => !decide (s.getD k 0 = 46) && decide (t.getD k 0 = 46)) (List.range s.length); rw [List.length_range] at this; unfold frs; omega) (fun i k hk => ?_) (fun i p hp _ => e_var rfl))) (EV.o1 (e_lst1 ea_nil (by decide))) (od_eqN (okI _))) ?_
  · have hk' : k < s.length := outs_lt (mem_frs.mp (List.mem_of_getElem? hk))
    refine (et_neS (e_opd (e_var rfl) (e_var rfl) (od_ixS (j := k) rfl (get_of_lt (by omega)) (by omega))) (e_opd (e_var rfl) (e_var rfl) (od_ixS (j := k) rfl (get_of_lt hk') (by omega)))).is ?_
    rw [str1]
  · rw [emp, emp]
    exact q




end
end Nt

namespace Nt
open PySem PySem.Spec PyProof.Rows L2


def RowV (cs : List (List Nat × Nat)) (r : List Nat) : Prop := r.length = cs.length ∧ ∀ (i c : Nat) (m : List Nat × Nat), r[i]? = some c → cs[i]? = some m → c = 46 ∨ (48 ≤ c ∧ c < 48 + m.2)
/-- cells as they are drawn -/
def CsV (cs : List (List Nat × Nat)) : Prop := cs.length ≤ 20 ∧ ∀ c ∈ cs, 1 ≤ c.2 ∧ c.2 ≤ 4
theorem rowV_snoc {cs : List (List Nat × Nat)} {r : List Nat} {c : Nat} {m : List Nat × Nat} (h : RowV cs r) (hc : c = 46 ∨ (48 ≤ c ∧ c < 48 + m.2)) : RowV (cs ++ [m]) (r ++ [c]) := by
  refine ⟨by rw [List.length_append, List.length_append, h.1]; rfl, fun i x y h1 h2 => ?_⟩
  by_cases hi : i < r.length
  · rw [List.getElem?_append_left hi] at h1
    rw [List.getElem?_append_left (by rw [← h.1]; exact hi)] at h2
    exact h.2 i x y h1 h2
  · rw [List.getElem?_append_right (by omega)] at h1
    rw [List.getElem?_append_right (by rw [← h.1]; omega)] at h2
    have e : i - r.length = 0 := by
      have := (List.getElem?_eq_some_iff.mp h1).1
      simp at this; omega
    rw [e] at h1
    rw [← h.1, e] at h2
    cases h1; cases h2; exact hc
theorem rowV_set {cs : List (List Nat × Nat)} {r : List Nat} {k c : Nat} {m : List Nat × Nat} (h : RowV cs r) (hm : cs[k]? = some m) (hc : c = 46 ∨ (48 ≤ c ∧ c < 48 + m.2)) : RowV cs (r.take k ++ [c] ++ r.drop (k + 1)) := by
  have hk : k < cs.length := (List.getElem?_eq_some_iff.mp hm).1
  have e : r.take k ++ [c] ++ r.drop (k + 1) = r.set k c := by
    rw [List.set_eq_take_append_cons_drop, if_pos (by rw [h.1]; exact hk), List.append_assoc]; rfl
  rw [e]
  refine ⟨by rw [List.length_set, h.1], fun i x y h1 h2 => ?_⟩
  rcases set_get h1 with ⟨q1, q2, _⟩ | ⟨_, q⟩
  · rw [q1, hm] at h2
    cases h2
    rw [q2]; exact hc
  · exact h.2 i x y q h2
theorem mem_digits {c m : Nat} (hm : m ≤ 4) : c ∈ [48, 49, 50, 51].take m ↔ 48 ≤ c ∧ c < 48 + m := by
  have h5 : m = 0 ∨ m = 1 ∨ m = 2 ∨ m = 3 ∨ m = 4 := by omega
  rcases h5 with h | h | h | h | h <;> subst h <;> simp <;> omega
theorem rowV_ok {cs : List (List Nat × Nat)} {r : List Nat} (hc : CsV cs) (h : RowV cs r) : CR cs r := by
  refine ⟨h.1, hc.1, fun c hm => (hc.2 c hm).2, ?_⟩
  unfold rowOk
  rw [List.all_eq_true]
  intro b hb
  obtain ⟨p, hp, rfl⟩ := List.mem_map.mp hb
  obtain ⟨i, hi⟩ := List.mem_iff_getElem?.mp hp
  obtain ⟨h1, h2⟩ := zip_get hi
  have hm := hc.2 _ (List.mem_of_getElem? h2)
  show (decide (p.1 = 46) || decide (p.1 ∈ [48, 49, 50, 51].take p.2.2)) = true
  rw [Bool.or_eq_true, decide_eq_true_eq, decide_eq_true_eq, mem_digits hm.2]
  exact h.2 i _ _ h1 h2
section
variable {K : PySem.W.Frag} {ρ : List En} {ta tb to te : TE} {X : XK}
theorem e_draw {k : Int} (h1 : ED ta ρ (· = .bag)) (h2 : ED tb ρ (· = .int k)) (hk : 1 ≤ k) (hk2 : k ≤ 1000) : ED (tCall (SpE Rg_law_draw) [] X (tCons ta (tCons tb tNil))) ρ (fun d => ∃ j : Nat, d = .int j ∧ (j : Int) < k) :=
  EV.ed (R := fun e => ∃ j : Nat, e = .dat (.int j) ∧ (j : Int) < k) (e_call0 (ea_c h1 (ea_c h2 ea_nil)) ⟨k, rfl, hk, by
    obtain ⟨n, rfl⟩ : ∃ n : Nat, k = n := ⟨k.toNat, by omega⟩
    exact log_small (by omega), fun j j0 j1 => ⟨j.toNat, by rw [show ((j.toNat : Nat) : Int) = j by omega], by omega⟩⟩) fun e ⟨j, hj, hl⟩ => ⟨.int j, by rw [hj]; rfl, j, rfl, hl⟩
theorem e_of {x : D} {xs : List D} (h1 : ED ta ρ (· = .bag)) (h2 : ED tb ρ (· = x)) (hx : Src x xs) (hl : 1 ≤ xs.length) (hl2 : xs.length ≤ 1000) : ED (tCall (SpE Rg_law_of) [] X (tCons ta (tCons tb tNil))) ρ (fun d => d ∈ xs) :=
  EV.ed (R := fun e => ∃ d, d ∈ xs ∧ e = .dat d) (e_call0 (ea_c h1 (ea_c h2 ea_nil)) ⟨x, xs, rfl, hx, hl, hl2, fun d hd => ⟨d, hd, rfl⟩⟩) fun e ⟨d, hd, he⟩ => ⟨d, by rw [he]; rfl, hd⟩
/-- join of signs -/
theorem e_joinP {G : List Nat → Prop} (h0 : ED to ρ (· = .str [])) (h : EV te ρ (fun e => ∃ l : List Nat, e = .own (l.map fun c => .str [c]) ∧ G l ∧ l.length ≤ 100000)) : ED (tM1 (rJoin K) to te) ρ (fun d => ∃ l, d = .str l ∧ G l) := by
  refine EV.ed (R := fun e => ∃ l, e = .dat (.str l) ∧ G l) (e_m1 h0 (EV.ed (P := fun d => ∃ l : List Nat, d = .lst (l.map fun c => .str [c]) ∧ G l ∧ l.length ≤ 100000) h fun e ⟨l, e1, a, b⟩ => ⟨_, by rw [e1]; rfl, l, rfl, a, b⟩) fun y ⟨l, hy, a, b⟩ => ?_) fun e ⟨l, e1, a⟩ => ⟨_, by rw [e1]; rfl, l, rfl, a⟩
  subst hy
  have e : (l.map fun c => D.str [c]) = (l.map fun c => [c]).map D.str := by rw [List.map_map]; rfl
  rw [e]
  intro W v vs r rs Q q
  refine md_join (by rw [flat1 l (fun c => c), List.map_id']; exact b) W v vs r rs Q fun u e W' g r p => q u e W' g r ⟨l, ?_, a⟩
  rw [p, flat1 l (fun c => c), List.map_id']
/-- r[:k] + sign + r[k + 1:] -/
theorem e_glue {r : List Nat} {k : Nat} {G : Nat → Prop} {t1 t2 t3 t4 t5 : TE} (hk : k < r.length) (hr : r.length ≤ 1000) (h1 : ED t1 ρ (· = .str r)) (h2 : ED t2 ρ (· = .int k)) (h3 : ED t3 ρ (fun d => ∃ c, d = .str [c] ∧ G c)) (h4 : ED t4 ρ (· = .str r)) (h5 : ED t5 ρ (· = .int ((k : Int) + 1))) :
    ED (tOp rPlus (tOp rPlus (tSl (rSlU K) t1 tNoPart (tPart t2)) t3) (tSl (rSlU K) t4 (tPart t5) tNoPart)) ρ (fun d => ∃ c, d = .str (r.take k ++ [c] ++ r.drop (k + 1)) ∧ G c) := by
  have s1 : ED (tSl (rSlU K) t1 tNoPart (tPart t2)) ρ (· = .str (r.take k)) := by
    rw [← cut_to (xs := r) (i := (k : Int)) rfl (by omega)]
    exact EV.d1 (e_sl h1 eo_none (eo_part h2) (sd_str (by omega)))
  have s2 : ED (tSl (rSlU K) t4 (tPart t5) tNoPart) ρ (· = .str (r.drop (k + 1))) := by
    rw [← cut_from (xs := r) (i := ((k : Int) + 1)) (k := k + 1) (by omega) (by omega)]
    exact EV.d1 (e_sl h4 (eo_part h5) eo_none (sd_str (by omega)))
  refine EV.ed (R := fun e => ∃ c, e = .dat (.str (r.take k ++ [c] ++ r.drop (k + 1))) ∧ G c) (e_op (PA := fun d => ∃ c, d = .str (r.take k ++ [c]) ∧ G c) (PB := fun d => d = .str (r.drop (k + 1))) (EV.ed (R := fun e => ∃ c, e = .dat (.str (r.take k ++ [c])) ∧ G c) (e_op s1 h3 fun x y hx ⟨c, hy, hc⟩ => ?_) fun e ⟨c, e1, a⟩ => ⟨_, by rw [e1]; rfl, c, rfl, a⟩) s2 fun x y ⟨c, hx, hc⟩ hy => ?_) fun e ⟨c, e1, a⟩ => ⟨_, by rw [e1]; rfl, c, rfl, a⟩
  · subst hx hy
    intro W v w' r1 r2 Q q
    exact od_addS (by rw [List.length_take]; simp; omega) W v w' r1 r2 Q fun u e W' g r p => q u e W' g r ⟨c, p, hc⟩
  · subst hx hy
    intro W v w' r1 r2 Q q
    exact od_addS (by rw [List.length_append, List.length_take, List.length_drop]; simp; omega) W v w' r1 r2 Q fun u e W' g r p => q u e W' g r ⟨c, p, hc⟩
/-- str(draw(bag, m)) -/
theorem e_dig {k : Nat} (hk : 1 ≤ k) (hk2 : k ≤ 9) (h1 : ED ta ρ (· = .bag)) (h2 : ED tb ρ (· = .int k)) : ED (tCB rStrI (tCons (tCall (SpE Rg_law_draw) [] X (tCons ta (tCons tb tNil))) tNil)) ρ (fun d => ∃ c, d = .str [c] ∧ 48 ≤ c ∧ c < 48 + k) :=
  EV.ed (R := fun e => ∃ c, e = .dat (.str [c]) ∧ 48 ≤ c ∧ c < 48 + k) (e_cb (ea_1 (e_draw h1 h2 (by omega) (by omega))) fun ds ⟨x, e1, j, e2, hj⟩ => by
    subst e1 e2
    intro W vs r Q q
    exact cd_digit (n := j) (by omega) W vs r Q fun u e W' g r p => q u e W' g r ⟨48 + j, p, by omega, by omega⟩) fun e ⟨c, e1, a⟩ => ⟨_, by rw [e1]; rfl, c, rfl, a⟩
end
/-! pigeons -/
theorem nodup_len {α : Type} [BEq α] [LawfulBEq α] : ∀ {l m : List α}, l.Nodup → (∀ x ∈ l, x ∈ m) → l.length ≤ m.length
  | [], _, _, _ => Nat.zero_le _
  | a :: l, m, hn, hs => by
    have ha := hs a List.mem_cons_self
    have hn' := List.nodup_cons.mp hn
    have h := nodup_len (l := l) (m := m.erase a) hn'.2 fun x hx => by
      have hne : x ≠ a := fun e => hn'.1 (e ▸ hx)
      exact (List.mem_erase_of_ne hne).mpr (hs x (List.mem_cons_of_mem _ hx))
    rw [List.length_erase_of_mem ha] at h
    have := List.length_pos_of_mem ha
    simp
    omega
def abc : List Nat := [109, 110, 98, 118, 99, 120, 121, 108, 107, 106, 104, 103, 102, 100, 115, 97, 112, 111, 105, 117, 122, 116, 114, 101, 119, 113]
theorem abc_left {L : List (List Nat)} (h : L.length ≤ 25) : abc.filter (fun c => !decide ([c] ∈ L)) ≠ [] := by
  intro hn
  rw [List.filter_eq_nil_iff] at hn
  have h1 : ∀ x ∈ abc.map (fun c => [c]), x ∈ L := fun x hx => by
    obtain ⟨c, hc, rfl⟩ := List.mem_map.mp hx
    have := hn c hc
    simpa using this
  have := nodup_len (l := abc.map fun c => [c]) (m := L) (by decide +kernel) h1
  rw [List.length_map] at this
  have e : abc.length = 26 := by decide +kernel
  omega
theorem erase_perm {α : Type} : ∀ {l : List α} {k : Nat} (h : k < l.length), (l[k] :: l.eraseIdx k).Perm l
  | a :: l, 0, h => List.Perm.refl _
  | a :: l, k + 1, h => by
    have := erase_perm (l := l) (k := k) (by simpa using h)
    exact (List.Perm.swap _ _ _).trans (this.cons a)
def Rg_law_row (ds : List D) (P : En → Prop) : Prop := ∃ (cs : List (List Nat × Nat)) (th : Int), ds = [.bag, .lst (cs.map cellD), .int th] ∧ CsV cs ∧ ∀ r, RowV cs r → P (.dat (.str r))
abbrev NmW (s : List Nat) : Prop := 1 ≤ s.length ∧ s.length ≤ 6 ∧ ∀ c ∈ s, 97 ≤ c ∧ c ≤ 122
def Rg_law_title (ds : List D) (P : En → Prop) : Prop := ∃ (L : List (List Nat)), ds = [.bag, .lst (L.map .str)] ∧ L.length ≤ 25 ∧ ∀ s : List Nat, NmW s → s ∉ L → P (.dat (.str s))
def Rg_law_frame (ds : List D) (P : En → Prop) : Prop := ∃ (n w : Nat), ds = [.bag, .int n, .int w] ∧ n ≤ 20 ∧ 1 ≤ w ∧ w ≤ 4 ∧ ∀ cs : List (List Nat × Nat), cs.length = n → (∀ c ∈ cs, (1 ≤ c.2 ∧ c.2 ≤ w) ∧ NmW c.1) → (cs.map Prod.fst).Nodup → P (.own (cs.map cellD))
def Rg_law_once (ds : List D) (P : En → Prop) : Prop := ∃ (S : List (List Nat)), ds = [.lst (S.map .str)] ∧ S.length ≤ 1000 ∧ ∀ S' : List (List Nat), (∀ s, s ∈ S' ↔ s ∈ S) → S'.length ≤ S.length → S'.Nodup → S'.Sublist S → P (.own (S'.map .str))
def Rg_law_stack (ds : List D) (P : En → Prop) : Prop := ∃ (cs : List (List Nat × Nat)) (n : Nat), ds = [.bag, .lst (cs.map cellD), .int n] ∧ CsV cs ∧ 1 ≤ cs.length ∧ 1 ≤ n ∧ n ≤ 900 ∧ ∀ S : List (List Nat), S ≠ [] → S.length ≤ n → (∀ s ∈ S, RowV cs s) → P (.own (S.map .str))
def Rg_law_size (ds : List D) (P : En → Prop) : Prop := ds = [.bag] ∧ ∀ n : Nat, 1 ≤ n → n ≤ 6 → P (.dat (.int n))
def Rg_law_mixed (ds : List D) (P : En → Prop) : Prop := ∃ xs : List D, ds = [.bag, .lst xs] ∧ xs.length ≤ 1000 ∧ ∀ ys : List D, ys.Perm xs → P (.own ys)
theorem len_law_row (ds P) (h : Rg_law_row ds P) : ds.length = 3 := by obtain ⟨_, _, rfl, _⟩ := h; rfl
theorem len_law_title (ds P) (h : Rg_law_title ds P) : ds.length = 2 := by obtain ⟨_, rfl, _⟩ := h; rfl
theorem len_law_frame (ds P) (h : Rg_law_frame ds P) : ds.length = 3 := by obtain ⟨_, _, rfl, _⟩ := h; rfl
theorem len_law_once (ds P) (h : Rg_law_once ds P) : ds.length = 1 := by obtain ⟨_, rfl, _⟩ := h; rfl
theorem len_law_stack (ds P) (h : Rg_law_stack ds P) : ds.length = 3 := by obtain ⟨_, _, rfl, _⟩ := h; rfl
theorem len_law_size (ds P) (h : Rg_law_size ds P) : ds.length = 1 := by obtain ⟨rfl, _⟩ := h; rfl
theorem len_law_mixed (ds P) (h : Rg_law_mixed ds P) : ds.length = 2 := by obtain ⟨_, rfl, _⟩ := h; rfl
section
variable {P : Program} {w : World} {K : PySem.W.Frag} {mg : Str → Option Value} {base : Heap}
theorem b_law_row (T : Txt K mg) : Binds K T.d_law_row ["_law_bag_here", "_law_frame_here", "_law_thin"] [] := by
  obtain ⟨ds, v, b⟩ := T.F_law_row.binds1 (ps := ["_law_bag_here", "_law_frame_here", "_law_thin"]) 3 1 (by simp) (by rfl) fun _ _ _ _ _ _ _ us its hu hi => match us, its, hu, hi with
    | [_, _, _], [_], _, _ => ⟨_, rfl, rfl⟩
  cases v
  exact b
theorem ok_law_row (T : Txt K mg) (G_law_draw : FnOk P w K mg base CX0 1 T.a_law_draw T.d_law_draw ["_law_bag_here", "_law_sides"] (SpE Rg_law_draw)) : FnOk P w K mg base CX0 2 T.a_law_row T.d_law_row ["_law_bag_here", "_law_frame_here", "_law_thin"] (SpE Rg_law_row) := by
  refine T.F_law_row.ok sc_law_row (fun vs H Q E h => spE_len h len_law_row) (fun cdv A outer s H vs Q E hr h => ?_)
  have hu := hu64 hr
  have hvl : vs.length = 3 := spE_len h len_law_row
  refine ⟨_, (pss_one (ps_ret (pe_joinK (K := K) rfl pe_str (pe_lc (own := [("_law_pair", 3)]) (g := gName 3) (tt := tYes) rfl sc_law_row.nd (pi_listK (K := K) rfl (pv 1)) (blkOk_by (N := N_law_row) (sc := defScope s_law_row) (by decide +kernel)) (fun _ _ _ _ _ => (pg_name (i := 3) sc_law_row.nd rfl (Or.inl rfl))) (fun _ _ _ _ _ => pts_nil) (fun _ _ _ _ _ => (pe_ifExp (pt_cmpR op_lt (pe_call G_law_draw (hr.mono (by decide)) (by rfl) T.g_law_draw T.F_law_draw.kp (b_law_draw T) .nil pass0 (pa_cons (pv 0) (pa_cons pe_int pa_nil))) (pv 2) (nomark _)) pe_str (pe_callTy call_strI (by rfl) T.n_str (by decide +kernel) (pa_cons (pe_call G_law_draw (hr.mono (by decide)) (by rfl) T.g_law_draw T.F_law_draw.kp (b_law_draw T) .nil pass0 (pa_cons (pv 0) (pa_cons (pe_ix (ix_K (K := K) rfl) (pv 3) pe_int (fun _ _ => rfl)) pa_nil))) pa_nil)))))))), fn_body h (by rw [hvl]; decide) (fun ds R hR hl => ?_)⟩
  obtain ⟨cs, th, rfl, hcs, q⟩ := hR
  refine t_retd (PD := fun d => ∃ r, d = .str r ∧ RowV cs r) (e_joinP (e_str rfl) ((e_lc1 (T := fun ds => ds = cs.map cellD) (Inv := fun _ i acc => ∃ l : List Nat, acc = l.map (fun c => .str [c]) ∧ RowV (cs.take i) l) (iv_list1 (e_var rfl)) (fun ds e => by rw [e, List.length_map]; have := hcs.1; omega) (fun ds e => ⟨[], rfl, by simp [RowV]⟩) fun ds i d acc e hd ⟨l, ha, hl⟩ => ?_).imp fun e ⟨ds, acc, e1, e2, l, e3, hl⟩ => ?_)) fun d ⟨r, e, hr⟩ => by rw [e]; exact q r hr
  · subst e
    obtain ⟨m, hm, rfl⟩ := map_get hd
    have hmm := hcs.2 m (List.mem_of_getElem? hm)
    refine et_yes.imp fun b hb => ?_
    rw [hb]
    refine iteT ?_
    refine ED.imp (P := fun y => ∃ c, y = .str [c] ∧ (c = 46 ∨ (48 ≤ c ∧ c < 48 + m.2))) (e_ifd (T := fun _ => True) (et_test (EV.ed (R := fun e => ∃ b, e = .dat (.bl b)) (e_op (PA := fun d => ∃ j : Nat, d = .int j ∧ (j : Int) < 5) (PB := fun d => d = .int th) (e_draw (e_var rfl) e_int (by decide) (by decide)) (e_var rfl) fun x y ⟨j, hx, _⟩ hy => ?_) fun e ⟨b, hb⟩ => ⟨.bl b, by rw [hb]; rfl, b, rfl, trivial⟩)) (fun _ => (e_str (s := [46]) (by decide +kernel)).imp fun d hd => ⟨46, hd, .inl rfl⟩) (fun _ => (e_dig (k := m.2) hmm.1 (by omega) (e_var rfl) (e_opd (e_var rfl) e_int (od_ixT (j := 1) rfl rfl))).imp fun d ⟨c, e, h⟩ => ⟨c, e, .inr h⟩)) fun y ⟨c, hy, hc⟩ => ⟨l ++ [c], ?_, ?_⟩
    · subst hx hy
      intro W v w' r1 r2 Q q
      exact od_lt W v w' r1 r2 Q fun u e W' g r p => q u e W' g r ⟨_, p⟩
    · rw [ha, hy, List.map_append]; rfl
    · rw [take_step hm]
      exact rowV_snoc hl hc
  · rw [e2, List.length_map, take_all] at hl
    exact ⟨l, by rw [e1, e3], hl, by have := hl.1; have := hcs.1; omega⟩

theorem ok_law_title (T : Txt K mg) (G_law_draw : FnOk P w K mg base CX0 1 T.a_law_draw T.d_law_draw ["_law_bag_here", "_law_sides"] (SpE Rg_law_draw)) (G_law_of : FnOk P w K mg base CX0 2 T.a_law_of T.d_law_of ["_law_bag_here", "_law_things"] (SpE Rg_law_of)) : FnOk P w K mg base CX0 3 T.a_law_title T.d_law_title ["_law_bag_here", "_law_taken"] (SpE Rg_law_title) := by
  refine T.F_law_title.ok sc_law_title (fun vs H Q E h => spE_len h len_law_title) (fun cdv A outer s H vs Q E hr h => ?_)
  have hu := hu64 hr
  have hvl : vs.length = 2 := spE_len h len_law_title
  refine ⟨_, (pss_cons (ps_if (pt_cmpR (op_eqK (K := K) rfl hu) (pe_call G_law_draw (hr.mono (by decide)) (by rfl) T.g_law_draw T.F_law_draw.kp (b_law_draw T) .nil pass0 (pa_cons (pv 0) (pa_cons pe_int pa_nil))) pe_int (nomark _)) (pss_one (ps_set (i := 2) sc_law_title.nd rfl (Or.inl rfl) (pe_call G_law_of (hr.mono (by decide)) (by rfl) T.g_law_of T.F_law_of.kp (b_law_of T) .nil pass0 (pa_cons (pv 0) (pa_cons (pe_lst (pa_cons pe_str (pa_cons pe_str (pa_cons pe_str (pa_cons pe_str (pa_cons pe_str (pa_cons pe_str (pa_cons pe_str (pa_cons pe_str (pa_cons pe_str pa_nil)))))))))) pa_nil))))) (pss_one (ps_set (i := 2) sc_law_title.nd rfl (Or.inl rfl) (pe_joinK (K := K) rfl pe_str (pe_lc (own := [("_law_k", 3)]) (g := gName 3) (tt := tYes) rfl sc_law_title.nd (pi_range1 (by rfl) T.n_range (pa_cons (pe_op op_plus pe_int (pe_call G_law_draw (hr.mono (by decide)) (by rfl) T.g_law_draw T.F_law_draw.kp (b_law_draw T) .nil pass0 (pa_cons (pv 0) (pa_cons pe_int pa_nil)))) pa_nil)) (blkOk_by (N := N_law_title) (sc := defScope s_law_title) (by decide +kernel)) (fun _ _ _ _ _ => (pg_name (i := 3) sc_law_title.nd rfl (Or.inl rfl))) (fun _ _ _ _ _ => pts_nil) (fun _ _ _ _ _ => (pe_call G_law_of (hr.mono (by decide)) (by rfl) T.g_law_of T.F_law_of.kp (b_law_of T) .nil pass0 (pa_cons (pv 0) (pa_cons pe_str pa_nil))))))))) (pss_cons (ps_if (pt_cmpR (op_inK (K := K) rfl) (pv 2) (pv 1) (by rfl)) (pss_one (ps_set (i := 2) sc_law_title.nd rfl (Or.inl rfl) (pe_ix (ix_K (K := K) rfl) (pe_lc (own := [("_law_sign", 4)]) (g := gName 4) (tt := _) rfl sc_law_title.nd (pi_str pe_str) (blkOk_by (N := N_law_title) (sc := defScope s_law_title) (by decide +kernel)) (fun _ _ _ _ _ => (pg_name (i := 4) sc_law_title.nd rfl (Or.inl rfl))) (fun _ _ _ _ _ => (pts_one (pt_cmpR (op_notInK (K := K) rfl) (pv 4) (pv 1) (by rfl)))) (fun _ _ _ _ _ => (pv 4))) pe_int (fun _ _ => rfl)))) pss_nil) (pss_one (ps_ret (pv 2))))), fn_body h (by rw [hvl]; decide) (fun ds R hR hl => ?_)⟩
  obtain ⟨L, rfl, hL, q⟩ := hR
  refine t_seq (M := fun ρ' => ∃ s x y, ρ' = [.dat .bag, .dat (.lst (L.map .str)), .dat (.str s), x, y] ∧ NmW s) (t_if (T := fun _ => True) (et_test (EV.ed (R := fun e => ∃ b, e = .dat (.bl b)) (e_op (PA := fun d => ∃ j : Nat, d = .int j ∧ (j : Int) < 8) (PB := fun d => d = .int 0) (e_draw (e_var rfl) e_int (by decide) (by decide)) e_int fun x y ⟨j, hx, _⟩ hy => ?_) fun e ⟨b, hb⟩ => ⟨.bl b, by rw [hb]; rfl, b, rfl, trivial⟩)) (fun _ => ?_) (fun _ => ?_)) fun ρ' m => ?_
  · subst hx hy
    intro W v w' r1 r2 Q q
    exact od_eqI W v w' r1 r2 Q fun u e W' g r p => q u e W' g r ⟨_, p⟩
  · refine t_asgd (PD := fun d => ∃ s, d = .str s ∧ NmW s) ((e_of (e_var rfl) (EV.o1 (e_lst1 (ea_c e_strz (ea_c e_strz (ea_c e_strz (ea_c e_strz (ea_c e_strz (ea_c e_strz (ea_c e_strz (ea_c e_strz (ea_c e_strz ea_nil))))))))) (by simp))) (.lst _) (by simp) (by simp)).imp fun d hd => ?_) fun d ⟨s, e, hs⟩ => by subst e; exact ⟨s, _, _, rfl, hs⟩
    simp only [List.mem_cons, List.not_mem_nil, or_false] at hd
    rcases hd with h | h | h | h | h | h | h | h | h <;> subst h <;> exact ⟨_, rfl, by decide +kernel, by decide +kernel, by decide +kernel⟩
  · have hrng : ∀ (X : XK) (ρ0 : List En), ρ0[0]? = some (.dat .bag) → EA (tCons (tOp rPlus (tC (.int 1)) (tCall (SpE Rg_law_draw) [] X (tCons (tVar 0) (tCons (tC (.int 6)) tNil)))) tNil) ρ0 (fun ds => ∃ n : Int, ds = [.int n] ∧ n ≤ 100000 ∧ -100000 ≤ n ∧ (1 ≤ n ∧ n ≤ 6)) := fun X ρ0 h0 =>
      (ea_1 (P := fun d => ∃ j : Nat, d = .int (1 + (j : Int)) ∧ j < 6) (EV.ed (R := fun e => ∃ j : Nat, e = .dat (.int (1 + (j : Int))) ∧ j < 6) (e_op (PA := fun d => d = .int 1) (PB := fun d => ∃ j : Nat, d = .int j ∧ (j : Int) < 6) e_int (e_draw (e_var h0) e_int (by decide) (by decide)) fun x y hx ⟨j, hy, hj⟩ => by
        subst hx hy
        intro W v w' r1 r2 Q q
        exact od_addI W v w' r1 r2 Q fun u e W' g r p => q u e W' g r ⟨j, p, by omega⟩) fun e ⟨j, e1, hj⟩ => ⟨.int (1 + (j : Int)), by rw [e1]; rfl, j, rfl, hj⟩)).imp fun ds ⟨x, e, j, ex, hj⟩ => ⟨1 + (j : Int), by rw [e, ex], by omega, by omega, by omega, by omega⟩
    refine t_asgd (PD := fun d => ∃ s, d = .str s ∧ NmW s) (e_joinP (G := NmW) (e_str rfl) ((e_lc1 (T := fun ds => ∃ n : Int, ds = ixs n.toNat ∧ (1 ≤ n ∧ n ≤ 6)) (Inv := fun _ i acc => ∃ l : List Nat, acc = l.map (fun c => .str [c]) ∧ l.length = i ∧ ∀ c ∈ l, 97 ≤ c ∧ c ≤ 122) (iv_rngP (T := fun n => 1 ≤ n ∧ n ≤ 6) (hrng _ _ rfl)) (fun ds ⟨n, e, hn⟩ => by rw [e]; simp [ixs]; omega) (fun ds e => ⟨[], rfl, rfl, by simp⟩) fun ds i d acc e hd ⟨l, ha, hl, hv⟩ => ?_).imp fun e ⟨ds, acc, e1, ⟨n, e2, hn⟩, l, e3, hl, hv⟩ => ⟨l, by rw [e1, e3], ⟨?_, ?_, hv⟩, ?_⟩)) fun d ⟨s, e, hs⟩ => by subst e; exact ⟨s, _, _, rfl, hs⟩
    · refine et_yes.imp fun b hb => ?_
      rw [hb]
      refine iteT ((e_of (e_var rfl) e_strz (.str _) (by decide +kernel) (by decide +kernel)).imp fun y hy => ?_)
      obtain ⟨c, hcm, rfl⟩ := List.mem_map.mp hy
      exact ⟨l ++ [c], by rw [ha, List.map_append]; rfl, by rw [List.length_append, hl]; rfl, fun z hz => by
        rcases List.mem_append.mp hz with h | h
        · exact hv z h
        · rw [List.mem_singleton.mp h]
          exact (show ∀ c ∈ ("qwertzuiopasdfghjklyxcvbnm" : Str).cps.toList, 97 ≤ c ∧ c ≤ 122 by decide +kernel) c hcm⟩
    · rw [hl, e2]; simp [ixs]; omega
    · rw [hl, e2]; simp [ixs]; omega
    · rw [hl, e2]; simp [ixs]; omega
  · obtain ⟨s, x, y, rfl, hs⟩ := m
    refine q_if1 (b := decide (s ∈ L)) (et_t1 (e_opd (e_var rfl) (e_var rfl) (od_inL (neg := false)))) (fun _ => ?_) fun hno => t_ret1 (e_var rfl) (q s hs (of_decide_eq_false hno))
    refine t_asgd (PD := fun d => ∃ c, d = .str [c] ∧ (97 ≤ c ∧ c ≤ 122) ∧ [c] ∉ L) (EV.ed (R := fun e => ∃ c, e = .dat (.str [c]) ∧ (97 ≤ c ∧ c ≤ 122) ∧ [c] ∉ L) (e_op (PA := fun d => d = .lst ((abc.filter fun c => !decide ([c] ∈ L)).map fun c => .str [c])) (PB := fun d => d = .int 0) (EV.o1 (lc1_filt (ds := abc) (emb := fun c => .str [c]) (t := fun c => !decide ([c] ∈ L)) (f := fun c => .str [c]) (iv_strS (e_str (s := abc) (by decide +kernel))) (by decide +kernel) (fun i c hc => et_t1 (e_opd (e_var rfl) (e_var rfl) (od_inL (neg := true)))) (fun i c hc _ => e_var rfl))) e_int fun a b ha hb => ?_) fun e ⟨c, e1, hc⟩ => ⟨_, by rw [e1]; rfl, c, rfl, hc⟩) fun d ⟨c, e, hc, hcn⟩ => by rw [e]; exact t_ret1 (e_var rfl) (q [c] ⟨by simp, by simp, fun z hz => by rw [List.mem_singleton.mp hz]; exact hc⟩ hcn)
    subst ha hb
    have hne := abc_left hL
    cases hf : abc.filter (fun c => !decide ([c] ∈ L)) with
    | nil => exact absurd hf hne
    | cons c l =>
      intro W v w' r1 r2 Q q
      exact od_ixL (K := K) (j := 0) rfl rfl W v w' r1 r2 Q fun u e W' g r p => q u e W' g r ⟨c, p, (show ∀ c ∈ abc, 97 ≤ c ∧ c ≤ 122 by decide +kernel) c (List.mem_filter.mp (by rw [hf]; exact List.mem_cons_self)).1, by
        have hm : c ∈ abc.filter (fun c => !decide ([c] ∈ L)) := by rw [hf]; exact List.mem_cons_self
        have := (List.mem_filter.mp hm).2
        exact of_decide_eq_false (by simpa using this)⟩

theorem ok_law_frame (T : Txt K mg) (G_law_draw : FnOk P w K mg base CX0 1 T.a_law_draw T.d_law_draw ["_law_bag_here", "_law_sides"] (SpE Rg_law_draw)) (G_law_title : FnOk P w K mg base CX0 3 T.a_law_title T.d_law_title ["_law_bag_here", "_law_taken"] (SpE Rg_law_title)) : FnOk P w K mg base CX0 4 T.a_law_frame T.d_law_frame ["_law_bag_here", "_law_size_here", "_law_widest"] (SpE Rg_law_frame) := by
  refine T.F_law_frame.ok sc_law_frame (fun vs H Q E h => spE_len h len_law_frame) (fun cdv A outer s H vs Q E hr h => ?_)
  have hu := hu64 hr
  have hvl : vs.length = 3 := spE_len h len_law_frame
  refine ⟨_, (pss_cons (ps_par (i := 3) (j := 4) (by rfl) sc_law_frame.nd rfl rfl (by decide) rfl rfl (pa_cons (pe_lst pa_nil) (pa_cons (pe_lst pa_nil) pa_nil)) (by rfl)) (pss_cons (ps_for PassesOwn.never rfl (pi_range1 (by rfl) T.n_range (pa_cons (pv 1) pa_nil)) (pg_name (i := 5) sc_law_frame.nd rfl (Or.inl rfl)) (pss_cons (ps_expr (pe_bm PySem.F.plainAttrs_list PySem.F.slot_list_append PySem.F.type_list_append mt_append (pv 4) (pa_cons (pe_call G_law_title (hr.mono (by decide)) (by rfl) T.g_law_title T.F_law_title.kp (b_law_title T) .nil pass0 (pa_cons (pv 0) (pa_cons (pv 4) pa_nil))) pa_nil))) (pss_one (ps_expr (pe_bm PySem.F.plainAttrs_list PySem.F.slot_list_append PySem.F.type_list_append mt_append (pv 3) (pa_cons (pe_tup (pa_cons (pe_ix (ix_K (K := K) rfl) (pv 4) (pe_un un_neg pe_int) (fun _ _ => rfl)) (pa_cons (pe_op op_plus pe_int (pe_call G_law_draw (hr.mono (by decide)) (by rfl) T.g_law_draw T.F_law_draw.kp (b_law_draw T) .nil pass0 (pa_cons (pv 0) (pa_cons (pv 2) pa_nil)))) pa_nil))) pa_nil)))))) (pss_one (ps_ret (pv 3))))), fn_body h (by rw [hvl]; decide) (fun ds R hR hl => ?_)⟩
  obtain ⟨n, w', rfl, hn, h1, h2, q⟩ := hR
  refine t_seq (M := fun ρ' => ρ' = [.dat .bag, .dat (.int n), .dat (.int w'), .own [], .own [], .un]) (t_par (P1 := fun e => e = .own []) (P2 := fun e => e = .own []) (e_lst1 ea_nil (by simp)) (e_lst1 ea_nil (by simp)) fun a b ha hb => by rw [ha, hb]; rfl) fun ρ' m => ?_
  subst m
  refine t_seq (M := fun ρ' => ∃ (cs : List (List Nat × Nat)) (L : List (List Nat)) (x : En), ρ' = [.dat .bag, .dat (.int n), .dat (.int w'), .own (cs.map cellD), .own (L.map .str), x] ∧ cs.length = n ∧ (∀ c ∈ cs, (1 ≤ c.2 ∧ c.2 ≤ w') ∧ NmW c.1) ∧ (cs.map Prod.fst).Nodup)
    (t_for1 (iv_rngN (ea_c (e_var rfl) ea_nil) (by omega)) (fun ds i ρ' => ∃ (cs : List (List Nat × Nat)) (L : List (List Nat)) (x : En), ρ' = [.dat .bag, .dat (.int n), .dat (.int w'), .own (cs.map cellD), .own (L.map .str), x] ∧ cs.length = i ∧ L = cs.map Prod.fst ∧ (∀ c ∈ cs, (1 ≤ c.2 ∧ c.2 ≤ w') ∧ NmW c.1) ∧ L.Nodup) (fun ds e => ⟨[], [], .un, rfl, rfl, rfl, by simp, List.nodup_nil⟩) (fun ds i d ρ' e hd inv => ?_) (fun ds ρ' e ⟨cs, L, x, a, b, b2, c, c2⟩ => ⟨cs, L, x, a, by rw [b, e, List.length_map, List.length_range], c, by rw [← b2]; exact c2⟩)) fun ρ' m => ?_
  · subst e
    obtain ⟨cs, L, x, rfl, a, b0, c, cnd⟩ := inv
    have b : L.length = i := by rw [b0, List.length_map]; exact a
    obtain ⟨k, hk, rfl⟩ := map_get hd
    have hil := (List.getElem?_eq_some_iff.mp hk).1
    rw [List.length_range] at hil
    refine t_seq (M := fun ρ' => ∃ s : List Nat, ρ' = [.dat .bag, .dat (.int n), .dat (.int w'), .own (cs.map cellD), .own ((L ++ [s]).map .str), .dat (.int (k : Nat))] ∧ NmW s ∧ s ∉ L) (t_app (PD := fun d => ∃ s, d = .str s ∧ NmW s ∧ s ∉ L) (ds := L.map .str) rfl (e_lend (i := 4) (ds := L.map .str) rfl (EV.ed (R := fun e => ∃ s, e = .dat (.str s) ∧ NmW s ∧ s ∉ L) (e_call0 (ea_c (e_var rfl) (ea_c (e_var rfl) ea_nil)) ⟨L, rfl, by omega, fun s hv hn => ⟨s, rfl, hv, hn⟩⟩) fun e ⟨s, e1, hv⟩ => ⟨.str s, by rw [e1]; rfl, s, rfl, hv⟩) fun d ⟨s, e, _⟩ => by rw [e]; rfl) (by rw [List.length_map]; omega) fun d ⟨s, e, hv⟩ => ⟨s, by rw [e, List.map_append]; rfl, hv⟩) fun ρ' m => ?_
    obtain ⟨s, rfl, hsv, hsn⟩ := m
    have hlast : ((L ++ [s]).map D.str)[((L ++ [s]).map D.str).length - 1]? = some (.str s) := by rw [List.map_append, List.length_append]; simp
    refine t_app (PD := fun d => ∃ m : Nat, d = cellD (s, m) ∧ 1 ≤ m ∧ m ≤ w') (ds := cs.map cellD) rfl ((e_tup (T := fun ds => ∃ m : Nat, ds = [.str s, .int m] ∧ 1 ≤ m ∧ m ≤ w') (ea_cons (P := fun d => d = .str s) (T' := fun _ => True) (e_lend (i := 4) (ds := (L ++ [s]).map .str) rfl (e_opd (e_var rfl) (EV.d1 (e_un e_int ud_neg)) (od_ixLlast hlast)) fun d e => by rw [e]; rfl) fun y hy => (ea_1 (P := fun d => ∃ m : Nat, d = .int m ∧ 1 ≤ m ∧ m ≤ w') (EV.ed (R := fun e => ∃ m : Nat, e = .dat (.int m) ∧ 1 ≤ m ∧ m ≤ w') (e_op (PA := fun d => d = .int 1) (PB := fun d => ∃ j : Nat, d = .int j ∧ (j : Int) < w') e_int (e_draw (e_var rfl) (e_var rfl) (by omega) (by omega)) fun a b ha ⟨j, hb, hj⟩ => ?_) fun e ⟨m, e1, h⟩ => ⟨.int m, by rw [e1]; rfl, m, rfl, h⟩)).imp fun ds ⟨z, e, m, ez, h⟩ => ⟨m, by rw [e, ez, hy], h⟩) fun ds ⟨m, e, _⟩ => by rw [e]; simp).imp fun d ⟨ds, e, m, e2, h⟩ => ⟨m, by rw [e, e2]; rfl, h⟩) (by rw [List.length_map]; omega) fun d ⟨m, e, h⟩ => ⟨cs ++ [(s, m)], L ++ [s], .dat (.int (k : Nat)), by rw [e, List.map_append (f := cellD)]; rfl, by rw [List.length_append, a]; rfl, by rw [b0, List.map_append]; rfl, fun c' hc' => ?_, List.nodup_append.mpr ⟨cnd, by simp, fun x hx y hy z => hsn (by rw [← List.mem_singleton.mp hy, ← z]; exact hx)⟩⟩
    · subst ha hb
      intro W v w2 r1 r2 Q q
      exact od_addI W v w2 r1 r2 Q fun u e W' g r p => q u e W' g r ⟨1 + j, by rw [p]; congr 2, by omega, by omega⟩
    · rcases List.mem_append.mp hc' with hh | hh
      · exact c c' hh
      · rw [List.mem_singleton.mp hh]; exact ⟨h, hsv⟩
  · obtain ⟨cs, L, x, rfl, a, c⟩ := m
    exact t_retO (i := 3) rfl (q cs a c.1 c.2)

theorem ok_law_once (T : Txt K mg)  : FnOk P w K mg base CX0 1 T.a_law_once T.d_law_once ["_law_things"] (SpE Rg_law_once) := by
  refine T.F_law_once.ok sc_law_once (fun vs H Q E h => spE_len h len_law_once) (fun cdv A outer s H vs Q E hr h => ?_)
  have hu := hu64 hr
  have hvl : vs.length = 1 := spE_len h len_law_once
  refine ⟨_, (pss_cons (ps_set (i := 1) sc_law_once.nd rfl (Or.inl rfl) (pe_lst pa_nil)) (pss_cons (ps_for PassesOwn.never rfl (pi_listK (K := K) rfl (pv 0)) (pg_name (i := 2) sc_law_once.nd rfl (Or.inl rfl)) (pss_one (ps_if (pt_cmpR (op_notInK (K := K) rfl) (pv 2) (pv 1) (by rfl)) (pss_one (ps_expr (pe_bm PySem.F.plainAttrs_list PySem.F.slot_list_append PySem.F.type_list_append mt_append (pv 1) (pa_cons (pv 2) pa_nil)))) pss_nil))) (pss_one (ps_ret (pv 1))))), fn_body h (by rw [hvl]; decide) (fun ds R hR hl => ?_)⟩
  obtain ⟨S, rfl, hS, q⟩ := hR
  refine q_asgo (e_lst1 ea_nil (by decide)) ?_
  refine t_seq (M := fun ρ' => ∃ (F : List (List Nat)) (x : En), ρ' = [.dat (.lst (S.map .str)), .own (F.map .str), x] ∧ (∀ s, s ∈ F ↔ s ∈ S) ∧ F.length ≤ S.length ∧ F.Nodup ∧ F.Sublist S) (t_for1 (iv_list1 (e_var rfl)) (fun ds i ρ' => ∃ (F : List (List Nat)) (x : En), ρ' = [.dat (.lst (S.map .str)), .own (F.map .str), x] ∧ (∀ s, s ∈ F ↔ s ∈ S.take i) ∧ F.length ≤ i ∧ F.Nodup ∧ F.Sublist (S.take i)) (fun ds e => ⟨[], .un, rfl, by simp, Nat.le_refl _, List.nodup_nil, List.nil_sublist _⟩) (fun ds i d ρ' e hd inv => ?_) (fun ds ρ' e ⟨F, x, a, b, c, nd, sb⟩ => ⟨F, x, a, by rw [e, List.length_map, take_all] at b; exact b, by rw [e, List.length_map] at c; exact c, nd, sb.trans (List.take_sublist _ _)⟩)) fun ρ' m => ?_
  · subst e
    obtain ⟨F, x, rfl, hm, hl, nd, sb⟩ := inv
    obtain ⟨s, hs, rfl⟩ := map_get hd
    have hil := (List.getElem?_eq_some_iff.mp hs).1
    refine t_if (T := fun b => b = !decide (s ∈ F)) (et_lend (i := 1) (ds := F.map .str) rfl (et_t1 (e_opd (e_var rfl) (e_var rfl) (od_inL (neg := true))))) (fun e => ?_) (fun e => ?_)
    · have hnm : ¬ s ∈ F := by simpa using e.symm
      refine t_app (PD := fun d => d = .str s) (ds := F.map .str) rfl (e_var rfl) (by rw [List.length_map]; omega) fun d hd => ⟨F ++ [s], .dat (.str s), by rw [hd, List.map_append]; rfl, fun z => ?_, by rw [List.length_append]; simp; omega, ?_, ?_⟩
      · rw [List.mem_append, hm z, take_step hs, List.mem_append]
      · rw [List.nodup_append]
        exact ⟨nd, by simp, fun a ha b hb hab => hnm (by rw [← List.mem_singleton.mp hb, ← hab]; exact ha)⟩
      · rw [take_step hs]
        exact List.Sublist.append sb (List.Sublist.refl _)
    · have hmem : s ∈ F := by simpa using e.symm
      refine t_next ⟨F, _, rfl, fun z => ?_, by omega, nd, by rw [take_step hs]; exact sb.trans (List.sublist_append_left _ _)⟩
      rw [take_step hs, List.mem_append, hm z]
      constructor
      · exact .inl
      · rintro (h | h)
        · exact h
        · rw [List.mem_singleton.mp h]; exact (hm s).mp hmem
  · obtain ⟨F, x, rfl, a, b, nd, sb⟩ := m
    exact t_retO (i := 1) rfl (q F a b nd sb)

theorem ok_law_size (T : Txt K mg) (G_law_of : FnOk P w K mg base CX0 2 T.a_law_of T.d_law_of ["_law_bag_here", "_law_things"] (SpE Rg_law_of)) : FnOk P w K mg base CX0 3 T.a_law_size T.d_law_size ["_law_bag_here"] (SpE Rg_law_size) := by
  refine T.F_law_size.ok sc_law_size (fun vs H Q E h => spE_len h len_law_size) (fun cdv A outer s H vs Q E hr h => ?_)
  have hu := hu64 hr
  have hvl : vs.length = 1 := spE_len h len_law_size
  refine ⟨_, (pss_one (ps_ret (pe_call G_law_of (hr.mono (by decide)) (by rfl) T.g_law_of T.F_law_of.kp (b_law_of T) .nil pass0 (pa_cons (pv 0) (pa_cons (pe_lst (pa_cons pe_int (pa_cons pe_int (pa_cons pe_int (pa_cons pe_int (pa_cons pe_int (pa_cons pe_int (pa_cons pe_int (pa_cons pe_int (pa_cons pe_int (pa_cons pe_int pa_nil))))))))))) pa_nil))))), fn_body h (by rw [hvl]; decide) (fun ds R hR hl => ?_)⟩
  obtain ⟨rfl, q⟩ := hR
  refine t_retd (PD := fun d => ∃ n : Nat, d = .int n ∧ 1 ≤ n ∧ n ≤ 6) ((e_of (e_var rfl) (EV.o1 (e_lst1 (ea_c e_int (ea_c e_int (ea_c e_int (ea_c e_int (ea_c e_int (ea_c e_int (ea_c e_int (ea_c e_int (ea_c e_int (ea_c e_int ea_nil)))))))))) (by simp))) (.lst _) (by simp) (by simp)).imp fun d hd => ?_) fun d ⟨n, e, a, b⟩ => by rw [e]; exact q n a b
  simp only [List.mem_cons, List.not_mem_nil, or_false] at hd
  rcases hd with h | h | h | h | h | h | h | h | h | h <;> subst h
  · exact ⟨2, rfl, by decide, by decide⟩
  · exact ⟨3, rfl, by decide, by decide⟩
  · exact ⟨3, rfl, by decide, by decide⟩
  · exact ⟨4, rfl, by decide, by decide⟩
  · exact ⟨4, rfl, by decide, by decide⟩
  · exact ⟨5, rfl, by decide, by decide⟩
  · exact ⟨3, rfl, by decide, by decide⟩
  · exact ⟨1, rfl, by decide, by decide⟩
  · exact ⟨2, rfl, by decide, by decide⟩
  · exact ⟨6, rfl, by decide, by decide⟩


end
end Nt

namespace Nt
open PySem PySem.Spec PyProof.Rows L2


section
variable {P : Program} {w : World} {K : PySem.W.Frag} {mg : Str → Option Value} {base : Heap}
theorem rowV_strok {cs : List (List Nat × Nat)} {r : List Nat} (hc : CsV cs) (h : RowV cs r) : (D.str r).ok = true := by
  show r.all (· < 0x110000) = true
  rw [List.all_eq_true]
  intro c hcm
  obtain ⟨i, hi⟩ := List.mem_iff_getElem?.mp hcm
  have hl := (List.getElem?_eq_some_iff.mp hi).1
  rw [h.1] at hl
  have h2 := h.2 i c _ hi (List.getElem?_eq_getElem hl)
  have h3 := hc.2 _ (List.getElem_mem hl)
  simp only [decide_eq_true_eq]
  omega
theorem glue_set {r : List Nat} {j c : Nat} (h : j < r.length) : r.take j ++ [c] ++ r.drop (j + 1) = r.set j c := by
  rw [List.set_eq_take_append_cons_drop, if_pos h, List.append_assoc]
  rfl
theorem set_getD {r : List Nat} {j c k : Nat} (h : j < r.length) : (r.set j c).getD k 0 = if k = j then c else r.getD k 0 := by
  rw [List.getD_eq_getElem?_getD, List.getD_eq_getElem?_getD, List.getElem?_set]
  by_cases e : j = k
  · rw [if_pos e, if_pos e.symm, if_pos h]; rfl
  · rw [if_neg e, if_neg (fun z => e z.symm)]
/-- not blank -/
def NBl (s : List Nat) : Prop := ∃ i, i < s.length ∧ s.getD i 0 ≠ 46
theorem nbl_set {r : List Nat} {j c : Nat} (h : j < r.length) (hc : c ≠ 46) : NBl (r.take j ++ [c] ++ r.drop (j + 1)) := by
  rw [glue_set h]
  exact ⟨j, by rw [List.length_set]; exact h, by rw [set_getD h, if_pos rfl]; exact hc⟩
theorem nbl_lot {r : List Nat} {n : Nat} (hl : r.length = n) (h : lotOf r ≠ List.replicate n 46) : NBl r := by
  by_cases e : NBl r
  · exact e
  · refine absurd ?_ h
    refine List.ext_getElem? fun i => ?_
    by_cases hi : i < r.length
    · have : r.getD i 0 = 46 := by
        by_cases z : r.getD i 0 = 46
        · exact z
        · exact absurd ⟨i, hi, z⟩ e
      rw [lot_get (get_of_lt hi), this, if_pos rfl, List.getElem?_replicate, if_pos (by omega)]
    · rw [List.getElem?_eq_none (by rw [lotOf_len]; omega), List.getElem?_eq_none (by rw [List.length_replicate]; omega)]
/-- each cell from the first n ones is told -/
def Told (S : List (List Nat)) (n : Nat) : Prop := ∀ i, i < n → ∃ s ∈ S, s.getD i 0 ≠ 46
/-- seeds of a band -/
structure SdV (cs : List (List Nat × Nat)) (S : List (List Nat)) : Prop where
  row : ∀ s ∈ S, RowV cs s
  nbl : ∀ s ∈ S, NBl s
  nd : S.Nodup
  told : Told S cs.length
def Rg_law_stackW (ds : List D) (P : En → Prop) : Prop := ∃ (cs : List (List Nat × Nat)) (n : Nat), ds = [.bag, .lst (cs.map cellD), .int n] ∧ CsV cs ∧ 1 ≤ cs.length ∧ 1 ≤ n ∧ n ≤ 900 ∧ ∀ S : List (List Nat), S ≠ [] → S.length ≤ n → SdV cs S → P (.own (S.map .str))
theorem len_law_stackW (ds P) (h : Rg_law_stackW ds P) : ds.length = 3 := by obtain ⟨_, _, rfl, _⟩ := h; rfl

theorem ok_law_stack (T : Txt K mg) (G_law_draw : FnOk P w K mg base CX0 1 T.a_law_draw T.d_law_draw ["_law_bag_here", "_law_sides"] (SpE Rg_law_draw)) (G_law_of : FnOk P w K mg base CX0 2 T.a_law_of T.d_law_of ["_law_bag_here", "_law_things"] (SpE Rg_law_of)) (G_law_row : FnOk P w K mg base CX0 2 T.a_law_row T.d_law_row ["_law_bag_here", "_law_frame_here", "_law_thin"] (SpE Rg_law_row)) (G_law_once : FnOk P w K mg base CX0 1 T.a_law_once T.d_law_once ["_law_things"] (SpE Rg_law_once)) (G_law_lot : FnOk P w K mg base CX0 1 T.a_law_lot T.d_law_lot ["_law_r"] (SpE Rg_law_lot)) : FnOk P w K mg base CX0 3 T.a_law_stack T.d_law_stack ["_law_bag_here", "_law_frame_here", "_law_size_here"] (SpE Rg_law_stackW) := by
  refine T.F_law_stack.ok sc_law_stack (fun vs H Q E h => spE_len h len_law_stackW) (fun cdv A outer s H vs Q E hr h => ?_)
  have hu := hu64 hr
  have hvl : vs.length = 3 := spE_len h len_law_stackW
  refine ⟨_, (pss_cons (ps_set (i := 3) sc_law_stack.nd rfl (Or.inl rfl) (pe_lst pa_nil)) (pss_cons (ps_set (i := 4) sc_law_stack.nd rfl (Or.inl rfl) (pe_call G_law_of (hr.mono (by decide)) (by rfl) T.g_law_of T.F_law_of.kp (b_law_of T) .nil pass0 (pa_cons (pv 0) (pa_cons (pe_lst (pa_cons pe_int (pa_cons pe_int (pa_cons pe_int pa_nil)))) pa_nil)))) (pss_cons (ps_for PassesOwn.never rfl (pi_range1 (by rfl) T.n_range (pa_cons (pv 2) pa_nil)) (pg_name (i := 5) sc_law_stack.nd rfl (Or.inl rfl)) (pss_cons (ps_set (i := 6) sc_law_stack.nd rfl (Or.inl rfl) (pe_call G_law_row (hr.mono (by decide)) (by rfl) T.g_law_row T.F_law_row.kp (b_law_row T) .nil pass0 (pa_cons (pv 0) (pa_cons (pv 1) (pa_cons (pv 4) pa_nil))))) (pss_cons (ps_if (pt_cmpR (op_eqK (K := K) rfl hu) (pe_call G_law_lot (hr.mono (by decide)) (by rfl) T.g_law_lot T.F_law_lot.kp (b_law_lot T) .nil pass0 (pa_cons (pv 6) pa_nil)) (pe_op op_times pe_str (pe_callB (call_lenK (K := K) rfl) (by rfl) T.n_len (by decide +kernel) (pa_cons (pv 1) pa_nil))) (nomark _)) (pss_cons (ps_set (i := 7) sc_law_stack.nd rfl (Or.inr rfl) (pe_call G_law_draw (hr.mono (by decide)) (by rfl) T.g_law_draw T.F_law_draw.kp (b_law_draw T) .nil pass0 (pa_cons (pv 0) (pa_cons (pe_callB (call_lenK (K := K) rfl) (by rfl) T.n_len (by decide +kernel) (pa_cons (pv 1) pa_nil)) pa_nil)))) (pss_one (ps_set (i := 6) sc_law_stack.nd rfl (Or.inl rfl) (pe_op op_plus (pe_op op_plus (pe_slice (sl_K (K := K) rfl) (pv 6) po_none (po_some (pv 7))) (pe_callTy call_strI (by rfl) T.n_str (by decide +kernel) (pa_cons (pe_call G_law_draw (hr.mono (by decide)) (by rfl) T.g_law_draw T.F_law_draw.kp (b_law_draw T) .nil pass0 (pa_cons (pv 0) (pa_cons (pe_ix (ix_K (K := K) rfl) (pe_ix (ix_K (K := K) rfl) (pv 1) (pv 7) (fun _ _ => rfl)) pe_int (fun _ _ => rfl)) pa_nil))) pa_nil))) (pe_slice (sl_K (K := K) rfl) (pv 6) (po_some (pe_op op_plus (pv 7) pe_int)) po_none))))) pss_nil) (pss_one (ps_expr (pe_bm PySem.F.plainAttrs_list PySem.F.slot_list_append PySem.F.type_list_append mt_append (pv 3) (pa_cons (pv 6) pa_nil))))))) (pss_cons (ps_set (i := 3) sc_law_stack.nd rfl (Or.inl rfl) (pe_call G_law_once (hr.mono (by decide)) (by rfl) T.g_law_once T.F_law_once.kp (b_law_once T) .nil pass0 (pa_cons (pv 3) pa_nil))) (pss_cons (ps_for PassesOwn.never rfl (pi_range1 (by rfl) T.n_range (pa_cons (pe_callB (call_lenK (K := K) rfl) (by rfl) T.n_len (by decide +kernel) (pa_cons (pv 1) pa_nil)) pa_nil)) (pg_name (i := 7) sc_law_stack.nd rfl (Or.inr rfl)) (pss_one (ps_if (pt_cmpR (op_eqK (K := K) rfl hu) (pe_lc (own := [("_law_r", 6)]) (g := gName 6) (tt := _) rfl sc_law_stack.nd (pi_listK (K := K) rfl (pv 3)) (blkOk_by (N := N_law_stack) (sc := defScope s_law_stack) (by decide +kernel)) (fun _ _ _ _ _ => (pg_name (i := 6) sc_law_stack.nd rfl (Or.inl rfl))) (fun _ _ _ _ _ => (pts_one (pt_cmpR (op_neK (K := K) rfl hu) (pe_ix (ix_K (K := K) rfl) (pv 6) (pv 7) (fun _ _ => rfl)) pe_str (nomark _)))) (fun _ _ _ _ _ => (pv 6))) (pe_lst pa_nil) (nomark _)) (pss_cons (ps_set (i := 8) sc_law_stack.nd rfl (Or.inl rfl) (pe_bm0 PySem.F.plainAttrs_list PySem.F.slot_list_pop PySem.F.type_list_pop mt_pop (pv 3))) (pss_one (ps_expr (pe_bm PySem.F.plainAttrs_list PySem.F.slot_list_append PySem.F.type_list_append mt_append (pv 3) (pa_cons (pe_op op_plus (pe_op op_plus (pe_slice (sl_K (K := K) rfl) (pv 8) po_none (po_some (pv 7))) (pe_callTy call_strI (by rfl) T.n_str (by decide +kernel) (pa_cons (pe_call G_law_draw (hr.mono (by decide)) (by rfl) T.g_law_draw T.F_law_draw.kp (b_law_draw T) .nil pass0 (pa_cons (pv 0) (pa_cons (pe_ix (ix_K (K := K) rfl) (pe_ix (ix_K (K := K) rfl) (pv 1) (pv 7) (fun _ _ => rfl)) pe_int (fun _ _ => rfl)) pa_nil))) pa_nil))) (pe_slice (sl_K (K := K) rfl) (pv 8) (po_some (pe_op op_plus (pv 7) pe_int)) po_none)) pa_nil))))) pss_nil))) (pss_one (ps_ret (pv 3)))))))), fn_body h (by rw [hvl]; decide) (fun ds R hR hl => ?_)⟩
  obtain ⟨cs, n, rfl, hcs, hc1, hn1, hn, q⟩ := hR
  have hc20 := hcs.1
  refine q_asgo (e_lst1 ea_nil (by simp)) ?_
  refine q_asgd (PD := fun d => ∃ th : Int, d = .int th) ((e_of (e_var rfl) (EV.o1 (e_lst1 (ea_c e_int (ea_c e_int (ea_c e_int ea_nil))) (by simp))) (.lst _) (by simp) (by simp)).imp fun d hd => ?_) fun d ⟨th, e⟩ => ?_
  · simp only [List.mem_cons, List.not_mem_nil, or_false] at hd
    rcases hd with h | h | h <;> exact ⟨_, h⟩
  subst e
  refine t_seq (M := fun ρ' => ∃ (S : List (List Nat)) (x5 x6 x7 : En), ρ' = [.dat .bag, .dat (.lst (cs.map cellD)), .dat (.int n), .own (S.map .str), .dat (.int th), x5, x6, x7, .un] ∧ S.length = n ∧ ∀ s ∈ S, RowV cs s ∧ NBl s)
    (t_for1 (iv_rngN (ea_c (e_var rfl) ea_nil) (by omega)) (fun ds i ρ' => ∃ (S : List (List Nat)) (x5 x6 x7 : En), ρ' = [.dat .bag, .dat (.lst (cs.map cellD)), .dat (.int n), .own (S.map .str), .dat (.int th), x5, x6, x7, .un] ∧ S.length = i ∧ ∀ s ∈ S, RowV cs s ∧ NBl s) (fun ds e => ⟨[], .un, .un, .un, rfl, rfl, by simp⟩) (fun ds i d ρ' e hd inv => ?_) (fun ds ρ' e ⟨S, x, y, z, a, b, c⟩ => ⟨S, x, y, z, a, by rw [b, e, List.length_map, List.length_range], c⟩)) fun ρ' m => ?_
  · subst e
    obtain ⟨S, x5, x6, x7, rfl, hl, hS⟩ := inv
    obtain ⟨k, hk, rfl⟩ := map_get hd
    have hil := (List.getElem?_eq_some_iff.mp hk).1
    rw [List.length_range] at hil
    refine q_asgd (PD := fun d => ∃ r, d = .str r ∧ RowV cs r) (EV.ed (R := fun e => ∃ r, e = .dat (.str r) ∧ RowV cs r) (e_call0 (ea_c (e_var rfl) (ea_c (e_var rfl) (ea_c (e_var rfl) ea_nil))) ⟨cs, th, rfl, hcs, fun r hr => ⟨r, rfl, hr⟩⟩) fun e ⟨r, e1, hr⟩ => ⟨.str r, by rw [e1]; rfl, r, rfl, hr⟩) fun d ⟨r, e, hr⟩ => ?_
    subst e
    have hrl := hr.1
    refine t_seq (M := fun ρ' => ∃ (r : List Nat) (x5 x7 : En), ρ' = [.dat .bag, .dat (.lst (cs.map cellD)), .dat (.int n), .own (S.map .str), .dat (.int th), x5, .dat (.str r), x7, .un] ∧ RowV cs r ∧ NBl r) (t_if (T := fun b => b = decide (lotOf r = List.replicate cs.length 46)) ((et_eqS (EV.d1 (e_call0 (R := fun e => e = .dat (.str (lotOf r))) (ea_c (e_var rfl) ea_nil) ⟨r, rfl, by omega, rfl⟩)) ((e_opd (e_str (s := [46]) (by decide +kernel)) (EV.d1 (e_cb1 (ea_c (e_var rfl) ea_nil) cd_lenL)) (od_mulS (by omega) (by rw [List.length_map]; omega) (by decide))).is (y := .str (List.replicate cs.length 46)) (by rw [List.length_map, Int.toNat_natCast, rep46])))) (fun _ => ?_) (fun e => t_next ⟨r, _, _, rfl, hr, nbl_lot hrl (of_decide_eq_false e.symm)⟩)) fun ρ' m => ?_
    · refine q_asgd (PD := fun d => ∃ j : Nat, d = .int j ∧ j < cs.length) ((e_draw (k := (cs.length : Int)) (e_var rfl) ((EV.d1 (e_cb1 (ea_c (e_var rfl) ea_nil) cd_lenL)).is (by rw [List.length_map])) (by omega) (by omega)).imp fun d ⟨j, e, h⟩ => ⟨j, e, by omega⟩) fun d ⟨j, e, hj⟩ => ?_
      subst e
      have hcj : cs[j]? = some cs[j] := List.getElem?_eq_getElem hj
      have hm := hcs.2 _ (List.getElem_mem hj)
      refine t_asgd (PD := fun d => ∃ c, d = .str (r.take j ++ [c] ++ r.drop (j + 1)) ∧ (48 ≤ c ∧ c < 48 + cs[j].2)) (e_glue (k := j) (r := r) (by omega) (by omega) (e_var rfl) (e_var rfl) (e_dig (k := cs[j].2) hm.1 (by omega) (e_var rfl) (e_opd (e_opd (e_var rfl) (e_var rfl) (od_ixL (j := j) rfl (by rw [List.getElem?_map, hcj]; rfl))) e_int (od_ixT (j := 1) rfl rfl))) (e_var rfl) (e_opd (e_var rfl) e_int od_addI)) fun d ⟨c, e, hc⟩ => by subst e; exact ⟨_, _, _, rfl, rowV_set hr hcj (.inr hc), nbl_set (by omega) (by omega)⟩
    · obtain ⟨r, x5, x7, rfl, hr, hrn⟩ := m
      refine t_app (PD := fun d => d = .str r) (ds := S.map .str) rfl (e_var rfl) (by rw [List.length_map]; omega) fun d hd => ⟨S ++ [r], x5, .dat (.str r), x7, by rw [hd, List.map_append]; rfl, by rw [List.length_append, hl]; rfl, fun s hs => ?_⟩
      rcases List.mem_append.mp hs with h | h
      · exact hS s h
      · rw [List.mem_singleton.mp h]; exact ⟨hr, hrn⟩
  obtain ⟨S, x5, x6, x7, rfl, hl, hS⟩ := m
  refine t_freeze (i := 3) (ds := S.map .str) rfl ?_
  refine q_asg (P := fun e => ∃ S' : List (List Nat), e = .own (S'.map .str) ∧ (∀ s, s ∈ S' ↔ s ∈ S) ∧ S'.length ≤ S.length ∧ S'.Nodup) (e_call0 (ea_c (e_var rfl) ea_nil) ⟨S, rfl, by omega, fun S' h1 h2 h3 _ => ⟨S', rfl, h1, h2, h3⟩⟩) fun e ⟨S', e1, h1, h2, hnd'⟩ => ?_
  subst e1
  have hS' : ∀ s ∈ S', RowV cs s ∧ NBl s := fun s hs => hS s ((h1 s).mp hs)
  have hne : S' ≠ [] := fun z => by
    obtain ⟨s, hs⟩ := List.exists_mem_of_length_pos (l := S) (by omega)
    have := (h1 s).mpr hs
    rw [z] at this; cases this
  have hle : S'.length ≤ n := by omega
  clear h1 h2 hS hl
  refine t_seq (M := fun ρ' => ∃ (S : List (List Nat)) (x6 x7 x8 : En), ρ' = [.dat .bag, .dat (.lst (cs.map cellD)), .dat (.int n), .own (S.map .str), .dat (.int th), x5, x6, x7, x8] ∧ S ≠ [] ∧ S.length ≤ n ∧ (∀ s ∈ S, RowV cs s ∧ NBl s) ∧ S.Nodup ∧ Told S cs.length)
    (t_for1 (iv_rngN (n := cs.length) ((ea_c (EV.d1 (e_cb1 (ea_c (e_var rfl) ea_nil) cd_lenL)) ea_nil).imp fun ds e => by rw [e, List.length_map]) (by omega)) (fun ds i ρ' => ∃ (S : List (List Nat)) (x6 x7 x8 : En), ρ' = [.dat .bag, .dat (.lst (cs.map cellD)), .dat (.int n), .own (S.map .str), .dat (.int th), x5, x6, x7, x8] ∧ S ≠ [] ∧ S.length ≤ n ∧ (∀ s ∈ S, RowV cs s ∧ NBl s) ∧ S.Nodup ∧ Told S i) (fun ds e => ⟨S', x6, x7, .un, rfl, hne, hle, hS', hnd', fun i hi => absurd hi (Nat.not_lt_zero i)⟩) (fun ds i d ρ' e hd inv => ?_) (fun ds ρ' e m => by rw [e, List.length_map, List.length_range] at m; exact m)) fun ρ' m => ?_
  · subst e
    obtain ⟨S, x6, x7, x8, rfl, hne, hle, hSb, hnd, htold⟩ := inv
    have hS : ∀ s ∈ S, RowV cs s := fun s hs => (hSb s hs).1
    obtain ⟨j, hj', rfl⟩ := map_get hd
    have hj := (List.getElem?_eq_some_iff.mp hj').1
    rw [List.length_range] at hj
    obtain ⟨_, hji⟩ := List.getElem?_eq_some_iff.mp hj'
    rw [List.getElem_range] at hji
    rw [hji] at hj
    have hcj : cs[j]? = some cs[j] := List.getElem?_eq_getElem hj
    have hm := hcs.2 _ (List.getElem_mem hj)
    have okS : ∀ (L : List (List Nat)), (∀ s ∈ L, s ∈ S) → ∀ d ∈ L.map D.str, d.ok = true := fun L hL d hd => by
      obtain ⟨s, hs, rfl⟩ := List.mem_map.mp hd
      exact rowV_strok hcs (hS s (hL s hs))
    refine t_if (T := fun b => b = (S.filter fun s => !decide (s.getD j 0 = 46)).isEmpty) (et_lend (i := 3) (ds := S.map .str) rfl ((et_t1 (e_opd (EV.o1 (lc1_filt (ds := S) (t := fun s => !decide (s.getD j 0 = 46)) (emb := D.str) (f := D.str) (iv_list1 (e_var rfl)) (by omega) (fun i s hs => ?_) (fun i s hs _ => e_var rfl))) (EV.o1 (e_lst1 ea_nil (by simp))) (od_eqN (okS _ fun s hs => (List.mem_filter.mp hs).1)))).is (by cases S.filter (fun s => !decide (s.getD j 0 = 46)) <;> rfl))) (fun hemp => ?_) (fun hemp => t_next ⟨S, _, _, _, rfl, hne, hle, hSb, hnd, fun k hk => ?_⟩)
    · have hsl := (hS s (List.mem_of_getElem? hs)).1
      refine (et_neS (e_opd (e_var rfl) (e_var rfl) (od_ixS (j := j) rfl (get_of_lt (by omega)) (by omega))) (e_str (s := [46]) (by decide +kernel))).is ?_
      rw [str1]
    · have hpos := List.length_pos_iff.mpr hne
      have hj46 : ∀ s ∈ S, s.getD j 0 = 46 := fun s hs => by
        by_cases z : s.getD j 0 = 46
        · exact z
        · have hm : s ∈ S.filter (fun s => !decide (s.getD j 0 = 46)) := List.mem_filter.mpr ⟨hs, by rw [decide_eq_false z]; rfl⟩
          cases hf : S.filter (fun s => !decide (s.getD j 0 = 46)) with
          | nil => rw [hf] at hm; cases hm
          | cons a l => rw [hf] at hemp; cases hemp
      have hlast : S[S.length - 1]? = some (S[S.length - 1]'(by omega)) := List.getElem?_eq_getElem _
      generalize S[S.length - 1]'(by omega) = r at hlast
      have hrm := hS r (List.mem_of_getElem? hlast)
      have hSd : S = S.dropLast ++ [r] := by
        have h2 := List.dropLast_concat_getLast hne
        rw [List.getLast_eq_getElem] at h2
        have h3 : S[S.length - 1]'(by omega) = r := by
          rw [List.getElem?_eq_getElem (by omega)] at hlast
          exact Option.some.inj hlast
        rw [h3] at h2
        exact h2.symm
      have hrl := hrm.1
      refine t_seq (M := fun ρ' => ∃ (x6 : En), ρ' = [.dat .bag, .dat (.lst (cs.map cellD)), .dat (.int n), .own (S.dropLast.map .str), .dat (.int th), x5, x6, .dat (.int j), .dat (.str r)]) (t_pop (ds := S.map .str) (d := .str r) rfl (by rw [List.length_map, List.getElem?_map, hlast]; rfl) ⟨x6, by rw [List.map_dropLast]; rfl⟩) fun ρ' m => ?_
      obtain ⟨x6, rfl⟩ := m
      refine t_app (PD := fun d => ∃ c, d = .str (r.take j ++ [c] ++ r.drop (j + 1)) ∧ (48 ≤ c ∧ c < 48 + cs[j].2)) (ds := S.dropLast.map .str) rfl (e_glue (k := j) (r := r) (by omega) (by omega) (e_var rfl) (e_var rfl) (e_dig (k := cs[j].2) hm.1 (by omega) (e_var rfl) (e_opd (e_opd (e_var rfl) (e_var rfl) (od_ixL (j := j) rfl (by rw [List.getElem?_map, hcj]; rfl))) e_int (od_ixT (j := 1) rfl rfl))) (e_var rfl) (e_opd (e_var rfl) e_int od_addI)) (by rw [List.length_map, List.length_dropLast]; omega) fun d ⟨c, e, hc⟩ => ⟨S.dropLast ++ [r.take j ++ [c] ++ r.drop (j + 1)], x6, .dat (.int j), .dat (.str r), by rw [e, List.map_append (f := D.str)]; rfl, by simp, by rw [List.length_append, List.length_dropLast]; simp; omega, fun s hs => ?_, ?_, fun k hk => ?_⟩
      · rcases List.mem_append.mp hs with h | h
        · exact hSb s (List.dropLast_subset S h)
        · rw [List.mem_singleton.mp h]; exact ⟨rowV_set hrm hcj (.inr hc), nbl_set (by omega) (by omega)⟩
      · refine List.nodup_append.mpr ⟨(List.dropLast_sublist S).nodup hnd, by simp, fun x hx y hy z => ?_⟩
        have h1 := hj46 x (List.dropLast_subset S hx)
        rw [z, List.mem_singleton.mp hy, glue_set (by omega), set_getD (by omega), if_pos rfl] at h1
        omega
      · by_cases hkj : k = j
        · refine ⟨_, List.mem_append_right _ (List.mem_singleton.mpr rfl), ?_⟩
          rw [glue_set (by omega), set_getD (by omega), if_pos hkj]
          omega
        · obtain ⟨s, hs, hsk⟩ := htold k (by omega)
          rw [hSd] at hs
          rcases List.mem_append.mp hs with h | h
          · exact ⟨s, List.mem_append_left _ h, hsk⟩
          · refine ⟨_, List.mem_append_right _ (List.mem_singleton.mpr rfl), ?_⟩
            rw [glue_set (by omega), set_getD (by omega), if_neg hkj, ← List.mem_singleton.mp h]
            exact hsk
    · by_cases hkj : k = j
      · cases hf : S.filter (fun s => !decide (s.getD j 0 = 46)) with
        | nil => rw [hf] at hemp; cases hemp
        | cons a l =>
          have hm : a ∈ S.filter (fun s => !decide (s.getD j 0 = 46)) := by rw [hf]; exact List.mem_cons_self
          obtain ⟨h1, h2⟩ := List.mem_filter.mp hm
          exact ⟨a, h1, by rw [hkj]; simpa using h2⟩
      · exact htold k (by omega)
  · obtain ⟨S, x6, x7, x8, rfl, hne, hle, hS, hnd, ht⟩ := m
    exact t_retO (i := 3) rfl (q S hne hle ⟨fun s hs => (hS s hs).1, fun s hs => (hS s hs).2, hnd, ht⟩)

end
end Nt

namespace Nt
open PySem PySem.Spec PyProof.Rows L2


/-- one of the four plain kinds -/
def D.scal : D → Bool
  | .non | .bl _ | .int _ | .str _ => true
  | _ => false
def D.sm : Nat → D → Bool
  | n + 1, .tup ds | n + 1, .lst ds => ds.all (D.sm n) && decide (ds.length ≤ 100000)
  | _, d => d.scal
theorem kit_sc {d : D} (h : d.scal = true) : d.pl = true ∧ kitB d.ty "list" = some false ∧ kitB d.ty "tuple" = some false ∧ kitB d.ty "dict" = some false ∧ (∃ b, kitB d.ty "bool" = some b) ∧ (∃ b, kitB d.ty "int" = some b) ∧ (∃ b, kitB d.ty "str" = some b) := by
  cases d with
  | non => exact ⟨rfl, rfl, rfl, rfl, ⟨_, rfl⟩, ⟨_, rfl⟩, ⟨_, rfl⟩⟩
  | bl b => exact ⟨rfl, rfl, rfl, rfl, ⟨_, rfl⟩, ⟨_, rfl⟩, ⟨_, rfl⟩⟩
  | int i => exact ⟨rfl, rfl, rfl, rfl, ⟨_, rfl⟩, ⟨_, rfl⟩, ⟨_, rfl⟩⟩
  | str s => exact ⟨rfl, rfl, rfl, rfl, ⟨_, rfl⟩, ⟨_, rfl⟩, ⟨_, rfl⟩⟩
  | _ => cases h
theorem od_eqSc {K : PySem.W.Frag} {d : D} (h : d.scal = true) (hn : d.isN = false) : OD (rEqU K) d d (· = .dat (.bl true)) := by
  cases d with
  | non => cases hn
  | bl b => have := od_eqB (K := K) (a := b) (b := b); rw [decide_eq_true rfl] at this; exact this
  | int i => have := od_eqI (K := K) (a := i) (b := i); rw [decide_eq_true rfl] at this; exact this
  | str s => have := od_eqS (K := K) (a := s) (b := s); rw [decide_eq_true rfl] at this; exact this
  | _ => cases h
def Rg_same (n : Nat) (ds : List D) (P : En → Prop) : Prop := ∃ d : D, ds = [d, d] ∧ d.sm n = true ∧ P (.dat (.bl true))
abbrev Rg_law_same := Rg_same 5
theorem len_same {n : Nat} (ds P) (h : Rg_same n ds P) : ds.length = 2 := by obtain ⟨_, rfl, _⟩ := h; rfl
theorem len_law_same (ds P) (h : Rg_law_same ds P) : ds.length = 2 := len_same ds P h
section
variable {P : Program} {w : World} {K : PySem.W.Frag} {mg : Str → Option Value} {base : Heap}

theorem ok_law_same0 (T : Txt K mg) : FnOk P w K mg base CX0 1 T.a_law_same T.d_law_same ["_law_found", "_law_due"] (SpE (Rg_same 0)) := by
  refine T.F_law_same.ok sc_law_same (fun vs H Q E h => spE_len h len_same) (fun cdv A outer s H vs Q E hr h => ?_)
  have hu := hu64 hr
  have hvl : vs.length = 2 := spE_len h len_same
  refine ⟨_, (pss_cons (ps_if (PW.pt (pw_or (pt_cmpR op_isNU (pv 1) pe_non (nomark _)) (pw_or1 (pt_cmpR op_isNU (pv 0) pe_non (nomark _))))) (pss_one (ps_ret (pe_and (pe_cmpR op_isNU (pv 1) pe_non (nomark _)) (pe_one (pe_cmpR op_isNU (pv 0) pe_non (nomark _)))))) pss_nil) (pss_cons (ps_if (pt_val (pe_callB (call_isiK2 (K := K) rfl) (by rfl) T.n_isinstance (by decide +kernel) (pa_cons (pv 1) (pa_cons (pe_tup (pa_cons (pe_bltn (v := .ty "list") (by rfl) T.n_list (by decide +kernel) rfl) (pa_cons (pe_bltn (v := .ty "tuple") (by rfl) T.n_tuple (by decide +kernel) rfl) pa_nil))) pa_nil)))) (pss_cons ps_never (pss_one ps_never)) pss_nil) (pss_cons (ps_if (pt_val (pe_callB (call_isiK1 (K := K) rfl) (by rfl) T.n_isinstance (by decide +kernel) (pa_cons (pv 1) (pa_cons (pe_bltn (v := .ty "dict") (by rfl) T.n_dict (by decide +kernel) rfl) pa_nil)))) (pss_cons ps_never (pss_one ps_never)) pss_nil) (pss_cons (ps_if (PW.pt (pw_or (pt_cmpR (op_neK (K := K) rfl hu) (pe_callB (call_isiK1 (K := K) rfl) (by rfl) T.n_isinstance (by decide +kernel) (pa_cons (pv 1) (pa_cons (pe_bltn (v := .ty "bool") (by rfl) T.n_bool (by decide +kernel) rfl) pa_nil))) (pe_callB (call_isiK1 (K := K) rfl) (by rfl) T.n_isinstance (by decide +kernel) (pa_cons (pv 0) (pa_cons (pe_bltn (v := .ty "bool") (by rfl) T.n_bool (by decide +kernel) rfl) pa_nil))) (nomark _)) (pw_or1 (pt_cmpR (op_neK (K := K) rfl hu) (pe_callB (call_isiK1 (K := K) rfl) (by rfl) T.n_isinstance (by decide +kernel) (pa_cons (pv 1) (pa_cons (pe_bltn (v := .ty "int") (by rfl) T.n_int (by decide +kernel) rfl) pa_nil))) (pe_callB (call_isiK1 (K := K) rfl) (by rfl) T.n_isinstance (by decide +kernel) (pa_cons (pv 0) (pa_cons (pe_bltn (v := .ty "int") (by rfl) T.n_int (by decide +kernel) rfl) pa_nil))) (nomark _))))) (pss_one (ps_ret pe_bl)) pss_nil) (pss_one (ps_ret (pe_and (pe_cmpR (op_eqK (K := K) rfl hu) (pe_callB (call_isiK1 (K := K) rfl) (by rfl) T.n_isinstance (by decide +kernel) (pa_cons (pv 1) (pa_cons (pe_bltn (v := .ty "str") (by rfl) T.n_str (by decide +kernel) rfl) pa_nil))) (pe_callB (call_isiK1 (K := K) rfl) (by rfl) T.n_isinstance (by decide +kernel) (pa_cons (pv 0) (pa_cons (pe_bltn (v := .ty "str") (by rfl) T.n_str (by decide +kernel) rfl) pa_nil))) (nomark _)) (pe_one (pe_cmpR (op_eqK (K := K) rfl hu) (pv 0) (pv 1) (nomark _)))))))))), fn_body h (by rw [hvl]; decide) (fun ds R hR hl => ?_)⟩
  obtain ⟨d, rfl, hd, q⟩ := hR
  refine q_if1 (b := d.isN || d.isN) (et_or1 (et_t1 (e_opd (e_var rfl) e_non od_isN)) fun _ => et_t1 (e_opd (e_var rfl) e_non od_isN)) (fun e => t_ret1 (e_and (e_opd (e_var rfl) e_non od_isN) fun _ => e_opd (e_var rfl) e_non od_isN) ?_) (fun e => ?_)
  · have e' : d.isN = true := by simpa using e
    rw [e']; exact q
  have hn : d.isN = false := by simpa using e
  obtain ⟨pl, k1, k2, k3, ⟨b4, k4⟩, ⟨b5, k5⟩, ⟨b6, k6⟩⟩ := kit_sc hd
  refine q_if1 (b := false || false) (et_v1 (e_isi2 (e_var rfl) pl k1 k2)) (fun e => nomatch e) fun _ => ?_
  refine q_if1 (b := false) (et_v1 (e_isi (e_var rfl) pl k3)) (fun e => nomatch e) fun _ => ?_
  refine q_if1 (b := (!decide (b4 = b4)) || (!decide (b5 = b5))) (et_or1 (et_t1 (e_opd (e_isi (e_var rfl) pl k4) (e_isi (e_var rfl) pl k4) od_neB)) fun _ => et_t1 (e_opd (e_isi (e_var rfl) pl k5) (e_isi (e_var rfl) pl k5) od_neB)) (fun e => by simp at e) fun _ => ?_
  refine t_ret1 (e_and (a := decide (b6 = b6)) (c := true) (e_opd (e_isi (e_var rfl) pl k6) (e_isi (e_var rfl) pl k6) od_eqB) fun _ => e_opd (e_var rfl) (e_var rfl) (od_eqSc hd hn)) ?_
  rw [decide_eq_true rfl]
  exact q

theorem IV2.imp2 {wi : TI} {ρ : List En} {R R' : List (D × D) → Prop} (h : IV2 wi ρ R) (k : ∀ l, R l → R' l) : IV2 wi ρ R' := fun W0 W σ E Q q => h W0 W σ E Q fun v e W' g r p => q v e W' g r (k e p)

theorem ok_law_sameS (T : Txt K mg) (n : Nat) (G_law_same : FnOk P w K mg base CX0 (n + 1) T.a_law_same T.d_law_same ["_law_found", "_law_due"] (SpE (Rg_same n))) : FnOk P w K mg base CX0 (n + 2) T.a_law_same T.d_law_same ["_law_found", "_law_due"] (SpE (Rg_same (n + 1))) := by
  refine T.F_law_same.ok sc_law_same (fun vs H Q E h => spE_len h len_same) (fun cdv A outer s H vs Q E hr h => ?_)
  have hu := hu64 hr
  have hvl : vs.length = 2 := spE_len h len_same
  refine ⟨_, (pss_cons (ps_if (PW.pt (pw_or (pt_cmpR op_isNU (pv 1) pe_non (nomark _)) (pw_or1 (pt_cmpR op_isNU (pv 0) pe_non (nomark _))))) (pss_one (ps_ret (pe_and (pe_cmpR op_isNU (pv 1) pe_non (nomark _)) (pe_one (pe_cmpR op_isNU (pv 0) pe_non (nomark _)))))) pss_nil) (pss_cons (ps_if (pt_val (pe_callB (call_isiK2 (K := K) rfl) (by rfl) T.n_isinstance (by decide +kernel) (pa_cons (pv 1) (pa_cons (pe_tup (pa_cons (pe_bltn (v := .ty "list") (by rfl) T.n_list (by decide +kernel) rfl) (pa_cons (pe_bltn (v := .ty "tuple") (by rfl) T.n_tuple (by decide +kernel) rfl) pa_nil))) pa_nil)))) (pss_cons (ps_if (PW.pt (pw_or (pt_cmpR (op_neK (K := K) rfl hu) (pe_callB (call_isiK1 (K := K) rfl) (by rfl) T.n_isinstance (by decide +kernel) (pa_cons (pv 0) (pa_cons (pe_bltn (v := .ty "list") (by rfl) T.n_list (by decide +kernel) rfl) pa_nil))) (pe_callB (call_isiK1 (K := K) rfl) (by rfl) T.n_isinstance (by decide +kernel) (pa_cons (pv 1) (pa_cons (pe_bltn (v := .ty "list") (by rfl) T.n_list (by decide +kernel) rfl) pa_nil))) (nomark _)) (pw_or1 (pt_cmpR (op_neK (K := K) rfl hu) (pe_callB (call_isiK1 (K := K) rfl) (by rfl) T.n_isinstance (by decide +kernel) (pa_cons (pv 0) (pa_cons (pe_bltn (v := .ty "tuple") (by rfl) T.n_tuple (by decide +kernel) rfl) pa_nil))) (pe_callB (call_isiK1 (K := K) rfl) (by rfl) T.n_isinstance (by decide +kernel) (pa_cons (pv 1) (pa_cons (pe_bltn (v := .ty "tuple") (by rfl) T.n_tuple (by decide +kernel) rfl) pa_nil))) (nomark _))))) (pss_one (ps_ret pe_bl)) pss_nil) (pss_one (ps_ret (pe_and (pe_cmpR (op_eqK (K := K) rfl hu) (pe_callB (call_lenK (K := K) rfl) (by rfl) T.n_len (by decide +kernel) (pa_cons (pv 0) pa_nil)) (pe_callB (call_lenK (K := K) rfl) (by rfl) T.n_len (by decide +kernel) (pa_cons (pv 1) pa_nil)) (nomark _)) (pe_one (pe_callB (call_allK (K := K) rfl rfl) (by rfl) T.n_all (by decide +kernel) (pa_cons (pe_lc (own := [("_law_x", 3), ("_law_y", 4)]) (g := gTup K 2 (gCons (gName 3) (gCons (gName 4) gNil))) (tt := tYes) rfl sc_law_same.nd (pi_zipK (K := K) rfl (by rfl) T.n_zip (pa_cons (pv 0) (pa_cons (pv 1) pa_nil))) (blkOk_by (N := N_law_same) (sc := defScope s_law_same) (by decide +kernel)) (fun _ _ _ _ _ => (pg_tup rfl (pgs_cons (pg_name (i := 3) sc_law_same.nd rfl (Or.inl rfl)) (pgs_cons (pg_name (i := 4) sc_law_same.nd rfl (Or.inl rfl)) pgs_nil)))) (fun _ _ _ _ _ => pts_nil) (fun _ _ _ _ _ => (pe_call G_law_same (hr.mono (by omega)) (by rfl) T.g_law_same T.F_law_same.kp (b_law_same T) .nil pass0 (pa_cons (pv 3) (pa_cons (pv 4) pa_nil))))) pa_nil))))))) pss_nil) (pss_cons (ps_if (pt_val (pe_callB (call_isiK1 (K := K) rfl) (by rfl) T.n_isinstance (by decide +kernel) (pa_cons (pv 1) (pa_cons (pe_bltn (v := .ty "dict") (by rfl) T.n_dict (by decide +kernel) rfl) pa_nil)))) (pss_cons ps_never (pss_one ps_never)) pss_nil) (pss_cons (ps_if (PW.pt (pw_or (pt_cmpR (op_neK (K := K) rfl hu) (pe_callB (call_isiK1 (K := K) rfl) (by rfl) T.n_isinstance (by decide +kernel) (pa_cons (pv 1) (pa_cons (pe_bltn (v := .ty "bool") (by rfl) T.n_bool (by decide +kernel) rfl) pa_nil))) (pe_callB (call_isiK1 (K := K) rfl) (by rfl) T.n_isinstance (by decide +kernel) (pa_cons (pv 0) (pa_cons (pe_bltn (v := .ty "bool") (by rfl) T.n_bool (by decide +kernel) rfl) pa_nil))) (nomark _)) (pw_or1 (pt_cmpR (op_neK (K := K) rfl hu) (pe_callB (call_isiK1 (K := K) rfl) (by rfl) T.n_isinstance (by decide +kernel) (pa_cons (pv 1) (pa_cons (pe_bltn (v := .ty "int") (by rfl) T.n_int (by decide +kernel) rfl) pa_nil))) (pe_callB (call_isiK1 (K := K) rfl) (by rfl) T.n_isinstance (by decide +kernel) (pa_cons (pv 0) (pa_cons (pe_bltn (v := .ty "int") (by rfl) T.n_int (by decide +kernel) rfl) pa_nil))) (nomark _))))) (pss_one (ps_ret pe_bl)) pss_nil) (pss_one (ps_ret (pe_and (pe_cmpR (op_eqK (K := K) rfl hu) (pe_callB (call_isiK1 (K := K) rfl) (by rfl) T.n_isinstance (by decide +kernel) (pa_cons (pv 1) (pa_cons (pe_bltn (v := .ty "str") (by rfl) T.n_str (by decide +kernel) rfl) pa_nil))) (pe_callB (call_isiK1 (K := K) rfl) (by rfl) T.n_isinstance (by decide +kernel) (pa_cons (pv 0) (pa_cons (pe_bltn (v := .ty "str") (by rfl) T.n_str (by decide +kernel) rfl) pa_nil))) (nomark _)) (pe_one (pe_cmpR (op_eqK (K := K) rfl hu) (pv 0) (pv 1) (nomark _)))))))))), fn_body h (by rw [hvl]; decide) (fun ds R hR hl => ?_)⟩
  obtain ⟨d, rfl, hd, q⟩ := hR
  rcases (show d.scal = true ∨ (∃ ds, d = .tup ds) ∨ ∃ ds, d = .lst ds from by
    cases d <;> first | exact .inl rfl | exact .inr (.inl ⟨_, rfl⟩) | exact .inr (.inr ⟨_, rfl⟩) | cases hd) with hd | ⟨ds, rfl⟩ | ⟨ds, rfl⟩
  · refine q_if1 (b := d.isN || d.isN) (et_or1 (et_t1 (e_opd (e_var rfl) e_non od_isN)) fun _ => et_t1 (e_opd (e_var rfl) e_non od_isN)) (fun e => t_ret1 (e_and (e_opd (e_var rfl) e_non od_isN) fun _ => e_opd (e_var rfl) e_non od_isN) ?_) (fun e => ?_)
    · have e' : d.isN = true := by simpa using e
      rw [e']; exact q
    have hn : d.isN = false := by simpa using e
    obtain ⟨pl, k1, k2, k3, ⟨b4, k4⟩, ⟨b5, k5⟩, ⟨b6, k6⟩⟩ := kit_sc hd
    refine q_if1 (b := false || false) (et_v1 (e_isi2 (e_var rfl) pl k1 k2)) (fun e => nomatch e) fun _ => ?_
    refine q_if1 (b := false) (et_v1 (e_isi (e_var rfl) pl k3)) (fun e => nomatch e) fun _ => ?_
    refine q_if1 (b := (!decide (b4 = b4)) || (!decide (b5 = b5))) (et_or1 (et_t1 (e_opd (e_isi (e_var rfl) pl k4) (e_isi (e_var rfl) pl k4) od_neB)) fun _ => et_t1 (e_opd (e_isi (e_var rfl) pl k5) (e_isi (e_var rfl) pl k5) od_neB)) (fun e => by simp at e) fun _ => ?_
    refine t_ret1 (e_and (a := decide (b6 = b6)) (c := true) (e_opd (e_isi (e_var rfl) pl k6) (e_isi (e_var rfl) pl k6) od_eqB) fun _ => e_opd (e_var rfl) (e_var rfl) (od_eqSc hd hn)) ?_
    rw [decide_eq_true rfl]
    exact q

  · -- tup
    have h2 : ds.all (D.sm n) = true ∧ ds.length ≤ 100000 := by
      have := hd
      unfold D.sm at this
      rw [Bool.and_eq_true, decide_eq_true_eq] at this
      exact this
    refine q_if1 (b := false || false) (et_or1 (et_t1 (e_opd (e_var rfl) e_non od_isN)) fun _ => et_t1 (e_opd (e_var rfl) e_non od_isN)) (fun e => nomatch e) (fun e => ?_)
    refine q_if1 (b := false || true) (et_v1 (e_isi2 (e_var rfl) rfl rfl rfl)) (fun _ => ?_) (fun e => nomatch e)
    refine q_if1 (b := (!decide (false = false)) || (!decide (true = true))) (et_or1 (et_t1 (e_opd (e_isi (e_var rfl) rfl rfl) (e_isi (e_var rfl) rfl rfl) od_neB)) fun _ => et_t1 (e_opd (e_isi (e_var rfl) rfl rfl) (e_isi (e_var rfl) rfl rfl) od_neB)) (fun e => by simp at e) fun _ => ?_
    refine t_ret1 (e_and (a := decide ((ds.length : Int) = (ds.length : Int))) (c := ((ds.zip ds).map fun _ => true).all id) (e_opd (EV.d1 (e_cb1 (ea_c (e_var rfl) ea_nil) cd_lenT)) (EV.d1 (e_cb1 (ea_c (e_var rfl) ea_nil) cd_lenT)) od_eqI) fun _ => EV.d1 (e_cb1 (ea_c (EV.o1 ((lc2_map (ds := ds.zip ds) (emb := fun p => p) (f := fun _ => .bl true) (by decide) ((iv_zip (.tup _) (.tup _) (ea_c (e_var rfl) (ea_c (e_var rfl) ea_nil))).imp2 fun l e => by rw [e, List.map_id']) (by rw [List.length_zip]; omega) (fun i p hp => ?_)).imp fun e he => by rw [he, List.map_map]; rfl)) ea_nil) cd_all)) ?_
    · obtain ⟨z1, z2⟩ := zip_get hp
      have e12 : p.1 = p.2 := by rw [z1] at z2; exact Option.some.inj z2
      have hsc : p.2.sm n = true := List.all_eq_true.mp h2.1 _ (List.mem_of_getElem? z2)
      exact EV.d1 (e_call0 (R := fun e => e = .dat (.bl true)) (ea_c (e_var rfl) (ea_c (e_var rfl) ea_nil)) ⟨p.2, by rw [e12], hsc, rfl⟩)
    · rw [decide_eq_true rfl, List.all_map]
      have : (ds.zip ds).all (id ∘ fun _ => true) = true := List.all_eq_true.mpr fun _ _ => rfl
      rw [this]
      exact q

  · -- lst
    have h2 : ds.all (D.sm n) = true ∧ ds.length ≤ 100000 := by
      have := hd
      unfold D.sm at this
      rw [Bool.and_eq_true, decide_eq_true_eq] at this
      exact this
    refine q_if1 (b := false || false) (et_or1 (et_t1 (e_opd (e_var rfl) e_non od_isN)) fun _ => et_t1 (e_opd (e_var rfl) e_non od_isN)) (fun e => nomatch e) (fun e => ?_)
    refine q_if1 (b := true || false) (et_v1 (e_isi2 (e_var rfl) rfl rfl rfl)) (fun _ => ?_) (fun e => nomatch e)
    refine q_if1 (b := (!decide (true = true)) || (!decide (false = false))) (et_or1 (et_t1 (e_opd (e_isi (e_var rfl) rfl rfl) (e_isi (e_var rfl) rfl rfl) od_neB)) fun _ => et_t1 (e_opd (e_isi (e_var rfl) rfl rfl) (e_isi (e_var rfl) rfl rfl) od_neB)) (fun e => by simp at e) fun _ => ?_
    refine t_ret1 (e_and (a := decide ((ds.length : Int) = (ds.length : Int))) (c := ((ds.zip ds).map fun _ => true).all id) (e_opd (EV.d1 (e_cb1 (ea_c (e_var rfl) ea_nil) cd_lenL)) (EV.d1 (e_cb1 (ea_c (e_var rfl) ea_nil) cd_lenL)) od_eqI) fun _ => EV.d1 (e_cb1 (ea_c (EV.o1 ((lc2_map (ds := ds.zip ds) (emb := fun p => p) (f := fun _ => .bl true) (by decide) ((iv_zip (.lst _) (.lst _) (ea_c (e_var rfl) (ea_c (e_var rfl) ea_nil))).imp2 fun l e => by rw [e, List.map_id']) (by rw [List.length_zip]; omega) (fun i p hp => ?_)).imp fun e he => by rw [he, List.map_map]; rfl)) ea_nil) cd_all)) ?_
    · obtain ⟨z1, z2⟩ := zip_get hp
      have e12 : p.1 = p.2 := by rw [z1] at z2; exact Option.some.inj z2
      have hsc : p.2.sm n = true := List.all_eq_true.mp h2.1 _ (List.mem_of_getElem? z2)
      exact EV.d1 (e_call0 (R := fun e => e = .dat (.bl true)) (ea_c (e_var rfl) (ea_c (e_var rfl) ea_nil)) ⟨p.2, by rw [e12], hsc, rfl⟩)
    · rw [decide_eq_true rfl, List.all_map]
      have : (ds.zip ds).all (id ∘ fun _ => true) = true := List.all_eq_true.mpr fun _ _ => rfl
      rw [this]
      exact q

theorem ok_same_n (T : Txt K mg) : ∀ n : Nat, FnOk P w K mg base CX0 (n + 1) T.a_law_same T.d_law_same ["_law_found", "_law_due"] (SpE (Rg_same n))
  | 0 => ok_law_same0 T
  | n + 1 => ok_law_sameS T n (ok_same_n T n)
theorem ok_law_same (T : Txt K mg) : FnOk P w K mg base CX0 6 T.a_law_same T.d_law_same ["_law_found", "_law_due"] (SpE Rg_law_same) := ok_same_n T 5
end
end Nt

namespace Nt
open PySem PySem.Spec PyProof.Rows L2


/-! ### one told lot -/
theorem getD_out {l : List Nat} {i : Nat} (h : ¬ i < l.length) : l.getD i 0 = 0 := by rw [List.getD_eq_getElem?_getD, List.getElem?_eq_none (by omega)]; rfl
theorem ovl_46 {s t : List Nat} (hl : s.length = t.length) {i : Nat} : (ov t (lotOf s)).getD i 0 = 46 ↔ t.getD i 0 = 46 ∧ s.getD i 0 = 46 := by
  by_cases hi : i < t.length
  · rw [getD_of (ov_get (get_of_lt hi) (lot_get (get_of_lt (l := s) (by omega))))]
    by_cases h1 : t.getD i 0 = 46
    · rw [if_pos h1]
      by_cases h2 : s.getD i 0 = 46
      · rw [if_pos h2]; exact ⟨fun _ => ⟨h1, h2⟩, fun _ => rfl⟩
      · rw [if_neg h2]; exact ⟨(fun z => nomatch z), fun z => absurd z.2 h2⟩
    · rw [if_neg h1]; exact ⟨fun z => absurd z h1, fun z => absurd z.1 h1⟩
  · rw [getD_out hi, getD_out (by rw [ov_len, lotOf_len]; omega)]
    simp
theorem mem_outs' {s t : List Nat} (hl : s.length = t.length) {i : Nat} : i ∈ outs s t ↔ i < s.length ∧ s.getD i 0 ≠ 46 ∧ t.getD i 0 = 46 := by
  rw [mem_outs]
  constructor
  · rintro ⟨c, h1, h2, h3⟩
    exact ⟨(List.getElem?_eq_some_iff.mp h1).1, by rw [getD_of h1]; exact h2, h3⟩
  · rintro ⟨h1, h2, h3⟩
    exact ⟨_, get_of_lt h1, h2, h3⟩
theorem run_sub {S S' : List (List Nat)} {r t t' : List Nat} {tk tk' : List (List Nat)} (hS : Len r.length S) (sub : ∀ s ∈ S, s ∈ S') (h : Run S r tk t) (ht' : t'.length = r.length) (f : Fin S' r t') : ∀ i : Nat, t'.getD i 0 = 46 → t.getD i 0 = 46 := by
  induction h with
  | nil =>
    intro i hi
    have hl : i < r.length := by
      by_cases hl : i < t'.length
      · omega
      · rw [getD_out hl] at hi; cases hi
    exact getD_of (by rw [List.getElem?_replicate, if_pos hl])
  | snoc hr hs hc ih =>
    rename_i tk t s
    intro i hi
    have hlt := run_len hS hr
    have hls := hS s hs
    have h1 := ih i hi
    rw [ovl_46 (by omega)]
    refine ⟨h1, ?_⟩
    by_cases h2 : s.getD i 0 = 46
    · exact h2
    · exfalso
      have hil : i < s.length := by
        by_cases hl : i < t'.length
        · omega
        · rw [getD_out hl] at hi; cases hi
      have hcan : canT s t' r = true := canT_of ⟨i, (mem_outs' (by omega)).mpr ⟨hil, h2, hi⟩⟩ fun j hj => by
        obtain ⟨a, b, c⟩ := (mem_outs' (by omega)).mp hj
        exact bars_nil hc j ((mem_outs' (by omega)).mpr ⟨a, b, ih j c⟩)
      rw [f s (sub s hs)] at hcan
      cases hcan
theorem run_uniq {S S' : List (List Nat)} {r t t' : List Nat} {tk tk' : List (List Nat)} (hS : Len r.length S) (hm : ∀ s, s ∈ S ↔ s ∈ S') (h : Run S r tk t) (f : Fin S r t) (h' : Run S' r tk' t') (f' : Fin S' r t') : t = t' := by
  have hS' : Len r.length S' := fun s hs => hS s ((hm s).mpr hs)
  have l1 := run_len hS h
  have l2 := run_len hS' h'
  have a := run_sub (tk' := tk') hS (fun s hs => (hm s).mp hs) h l2 f'
  have b := run_sub (tk' := tk) hS' (fun s hs => (hm s).mpr hs) h' l1 f
  refine List.ext_getElem (by omega) fun i h1 h2 => ?_
  have e1 : t.getD i 0 = t[i] := getD_of (List.getElem?_eq_getElem h1)
  have e2 : t'.getD i 0 = t'[i] := getD_of (List.getElem?_eq_getElem h2)
  have c1 := run_bin h _ (List.getElem_mem h1)
  have c2 := run_bin h' _ (List.getElem_mem h2)
  have a' := a i
  have b' := b i
  rw [e1, e2] at a' b'
  rcases c1 with c1 | c1 <;> rcases c2 with c2 | c2 <;> rw [c1, c2]
  · have := b' c1; rw [c2] at this; cases this
  · have := a' c2; rw [c1] at this; cases this
/-! ### the taken, laid -/
theorem layF_len {n : Nat} {b : List Nat} : ∀ {tk : List (List Nat)}, (∀ s ∈ tk, s.length = n) → b.length = n → (tk.foldr ov b).length = n
  | [], _, h => h
  | s :: tk, hs, h => by
    rw [List.foldr_cons, ov_len, layF_len (fun x hx => hs x (List.mem_cons_of_mem _ hx)) h, hs s List.mem_cons_self, Nat.min_self]
theorem lay_get {S : List (List Nat)} {r t : List Nat} {tk : List (List Nat)} (hS : Len r.length S) (h : Run S r tk t) : ∀ (b : List Nat), b.length = r.length → ∀ i : Nat, i < r.length → (tk.foldr ov b).getD i 0 = if t.getD i 0 = 46 then b.getD i 0 else r.getD i 0 := by
  induction h with
  | nil =>
    intro b hb i hi
    rw [getD_of (l := List.replicate r.length 46) (by rw [List.getElem?_replicate, if_pos hi]), if_pos rfl]; rfl
  | snoc hr hs hc ih =>
    rename_i tk t s
    intro b hb i hi
    have hlt := run_len hS hr
    have hls := hS s hs
    rw [List.foldr_append, List.foldr_cons, List.foldr_nil, ih (ov s b) (by rw [ov_len]; omega) i hi]
    have e := ovl_46 (s := s) (t := t) (by omega) (i := i)
    rw [getD_of (ov_get (get_of_lt (l := s) (by omega)) (get_of_lt (l := b) (by omega)))]
    by_cases h1 : t.getD i 0 = 46
    · rw [if_pos h1]
      by_cases h2 : s.getD i 0 = 46
      · rw [if_pos h2, if_pos (e.mpr ⟨h1, h2⟩)]
      · rw [if_neg h2, if_neg (fun z => h2 (e.mp z).2)]
        exact (bars_nil hc i ((mem_outs' (by omega)).mpr ⟨by omega, h2, h1⟩)).symm
    · rw [if_neg h1, if_neg (fun z => h1 (e.mp z).1)]
def lotF (tk : List (List Nat)) (b : List Nat) : List Nat := tk.foldr (fun s a => jn a (lotOf s)) b
theorem lotF_bin {b : List Nat} (hb : Bin b) : ∀ (tk : List (List Nat)), Bin (lotF tk b)
  | [] => hb
  | s :: tk => by
    show Bin (jn (lotF tk b) (lotOf s))
    rw [jn_ov (lotF_bin hb tk) (bin_lot s)]
    exact bin_ov (lotF_bin hb tk) (bin_lot s)
theorem lotF_len {n : Nat} {b : List Nat} (hb : Bin b) : ∀ {tk : List (List Nat)}, (∀ s ∈ tk, s.length = n) → b.length = n → (lotF tk b).length = n
  | [], _, h => h
  | s :: tk, hs, h => by
    show (jn (lotF tk b) (lotOf s)).length = n
    rw [jn_ov (lotF_bin hb tk) (bin_lot s), ov_len, lotOf_len, lotF_len hb (fun x hx => hs x (List.mem_cons_of_mem _ hx)) h, hs s List.mem_cons_self, Nat.min_self]
theorem lots_get {S : List (List Nat)} {r t : List Nat} {tk : List (List Nat)} (hS : Len r.length S) (h : Run S r tk t) : ∀ (b : List Nat), Bin b → b.length = r.length → ∀ i : Nat, i < r.length → (lotF tk b).getD i 0 = if t.getD i 0 = 46 then b.getD i 0 else 43 := by
  induction h with
  | nil =>
    intro b _ hb i hi
    rw [getD_of (l := List.replicate r.length 46) (by rw [List.getElem?_replicate, if_pos hi]), if_pos rfl]; rfl
  | snoc hr hs hc ih =>
    rename_i tk t s
    intro b bb hb i hi
    have hlt := run_len hS hr
    have hls := hS s hs
    have e0 : lotF (tk ++ [s]) b = lotF tk (jn b (lotOf s)) := by unfold lotF; rw [List.foldr_append]; rfl
    rw [e0, jn_ov bb (bin_lot s), ih (ov b (lotOf s)) (bin_ov bb (bin_lot s)) (by rw [ov_len, lotOf_len]; omega) i hi]
    have e := ovl_46 (s := s) (t := t) (by omega) (i := i)
    rw [getD_of (ov_get (get_of_lt (l := b) (by omega)) (lot_get (get_of_lt (l := s) (by omega))))]
    have hbi := bb _ (List.mem_of_getElem? (get_of_lt (l := b) (i := i) (by omega)))
    by_cases h1 : t.getD i 0 = 46
    · rw [if_pos h1]
      by_cases h2 : s.getD i 0 = 46
      · rw [if_pos h2, if_pos (e.mpr ⟨h1, h2⟩)]
        by_cases h3 : b.getD i 0 = 46
        · rw [if_pos h3, h3]
        · rw [if_neg h3]
      · rw [if_neg h2, if_neg (fun z => h2 (e.mp z).2)]
        rcases hbi with h3 | h3 <;> rw [h3] <;> decide
    · rw [if_neg h1, if_neg (fun z => h1 (e.mp z).1)]
def maskR (r t : List Nat) : List Nat := (List.range r.length).map fun k => if t.getD k 0 = 43 then r.getD k 0 else 46
theorem ext_getD {x y : List Nat} (hl : x.length = y.length) (h : ∀ i : Nat, i < x.length → x.getD i 0 = y.getD i 0) : x = y :=
  List.ext_getElem hl fun i h1 h2 => by
    have := h i h1
    rw [getD_of (List.getElem?_eq_getElem h1), getD_of (List.getElem?_eq_getElem h2)] at this
    exact this
theorem mask_get {r t : List Nat} {i : Nat} (h : i < r.length) : (maskR r t).getD i 0 = if t.getD i 0 = 43 then r.getD i 0 else 46 := by
  unfold maskR
  exact getD_of (by rw [List.getElem?_map, List.getElem?_range h]; rfl)
theorem mask_len (r t : List Nat) : (maskR r t).length = r.length := by unfold maskR; rw [List.length_map, List.length_range]
theorem lay_end {S : List (List Nat)} {r t : List Nat} {tk : List (List Nat)} (hS : Len r.length S) (h : Run S r tk t) : tk.foldr ov (List.replicate r.length 46) = maskR r t := by
  have hlt := run_len hS h
  have hl := layF_len (b := List.replicate r.length 46) (fun s hs => hS s (run_mem h s hs)) List.length_replicate
  refine ext_getD (by rw [hl, mask_len]) fun i hi => ?_
  rw [hl] at hi
  rw [lay_get hS h _ List.length_replicate i hi, mask_get hi, getD_of (l := List.replicate r.length 46) (by rw [List.getElem?_replicate, if_pos hi])]
  rcases run_bin h _ (List.mem_of_getElem? (get_of_lt (l := t) (i := i) (by omega))) with h3 | h3 <;> rw [h3] <;> simp
theorem lots_end {S : List (List Nat)} {r t : List Nat} {tk : List (List Nat)} (hS : Len r.length S) (h : Run S r tk t) : lotF tk (List.replicate r.length 46) = t := by
  have hlt := run_len hS h
  have hl := lotF_len (b := List.replicate r.length 46) (bin_rep _) (fun s hs => hS s (run_mem h s hs)) List.length_replicate
  refine ext_getD (by rw [hl, hlt]) fun i hi => ?_
  rw [hl] at hi
  rw [lots_get hS h _ (bin_rep _) List.length_replicate i hi, getD_of (l := List.replicate r.length 46) (by rw [List.getElem?_replicate, if_pos hi])]
  rcases run_bin h _ (List.mem_of_getElem? (get_of_lt (l := t) (i := i) (by omega))) with h3 | h3 <;> rw [h3] <;> simp
theorem mask_made {r t : List Nat} (h : t = lotOf r) : maskR r t = r := by
  refine ext_getD (mask_len r t) fun i hi => ?_
  rw [mask_len] at hi
  rw [mask_get hi, h, getD_of (lot_get (get_of_lt hi))]
  by_cases h1 : r.getD i 0 = 46
  · rw [if_pos h1, h1]; rfl
  · rw [if_neg h1]; rfl
theorem drop_step {α : Type} {l : List α} {i : Nat} {s : α} (h : l.reverse[i]? = some s) : l.drop (l.length - i) = l.drop (l.length - i) ∧ l.drop (l.length - (i + 1)) = s :: l.drop (l.length - i) := by
  have hi := (List.getElem?_eq_some_iff.mp h).1
  rw [List.length_reverse] at hi
  rw [List.getElem?_reverse hi] at h
  refine ⟨rfl, ?_⟩
  obtain ⟨h1, h2⟩ := List.getElem?_eq_some_iff.mp h
  have e : l.length - (i + 1) = l.length - 1 - i := by omega
  rw [e, List.drop_eq_getElem_cons h1, h2]
  congr 2
  omega
def Rg_law_one_so (ds : List D) (P : En → Prop) : Prop := ∃ (cs : List (List Nat × Nat)) (S : List (List Nat)) (r t : List Nat), ds = [.lst (cs.map cellD), .lst (S.map .str), .str r, .str t] ∧ CR cs r ∧ S.length ≤ 1000 ∧ Len r.length S ∧ (∃ S0 tk0, (∀ s, s ∈ S0 ↔ s ∈ S) ∧ Run S0 r tk0 t ∧ Fin S0 r t) ∧ P (.dat (.bl true))
theorem len_law_one_so (ds P) (h : Rg_law_one_so ds P) : ds.length = 4 := by obtain ⟨_, _, _, _, rfl, _⟩ := h; rfl
theorem t_par3 {ta tb tc : TE} {ρ : List En} {p : Ps} {i j l : Nat} {P1 P2 P3 : En → Prop} (h1 : EV ta ρ P1) (h2 : EV tb ρ P2) (h3 : EV tc ρ P3) (k : ∀ a b c, P1 a → P2 b → P3 c → p.N (((ρ.set i a).set j b).set l c)) : TT' (tPar3 i j l (tCons ta (tCons tb (tCons tc tNil)))) ρ p := fun W0 W σ E Dd nx rt bk ct =>
  h1 W0 W σ E _ fun v a W1 g1 r1 p1 => h2 W0 W1 σ (E.grow g1) _ fun w b W2 g2 r2 p2 => h3 W0 W2 σ ((E.grow g1).grow g2) _ fun x c W3 g3 r3 p3 => ⟨v, w, x, rfl, nx _ W3 _ (((E.set g1 r1 i).set g2 r2 j).set g3 r3 l) ((g1.b.tr g2.b).tr g3.b) (k a b c p1 p2 p3)⟩
section
variable {P : Program} {w : World} {K : PySem.W.Frag} {mg : Str → Option Value} {base : Heap}


end
end Nt

namespace Nt
open PySem PySem.Spec PyProof.Rows L2


/-! ### the run by the first seed each time, step by step -/
def stepF (S : List (List Nat)) (r : List Nat) : Nat → List (List Nat) × List Nat
  | 0 => ([], List.replicate r.length 46)
  | k + 1 => match S.find? (fun s => canT s (stepF S r k).2 r) with
    | some s => ((stepF S r k).1 ++ [s], ov (stepF S r k).2 (lotOf s))
    | none => stepF S r k
theorem step_some {S : List (List Nat)} {r s : List Nat} {k : Nat} (h : S.find? (fun s => canT s (stepF S r k).2 r) = some s) : stepF S r (k + 1) = ((stepF S r k).1 ++ [s], ov (stepF S r k).2 (lotOf s)) := by
  show (match S.find? (fun s => canT s (stepF S r k).2 r) with
    | some s => ((stepF S r k).1 ++ [s], ov (stepF S r k).2 (lotOf s))
    | none => stepF S r k) = _
  rw [h]
theorem step_none {S : List (List Nat)} {r : List Nat} {k : Nat} (h : S.find? (fun s => canT s (stepF S r k).2 r) = none) : stepF S r (k + 1) = stepF S r k := by
  show (match S.find? (fun s => canT s (stepF S r k).2 r) with
    | some s => ((stepF S r k).1 ++ [s], ov (stepF S r k).2 (lotOf s))
    | none => stepF S r k) = _
  rw [h]
theorem fin_find {S : List (List Nat)} {r t : List Nat} (h : Fin S r t) : S.find? (fun s => canT s t r) = none := by
  rw [List.find?_eq_none]
  intro s hs
  rw [h s hs]; simp
theorem find_fin {S : List (List Nat)} {r t : List Nat} (h : S.find? (fun s => canT s t r) = none) : Fin S r t := fun s hs => by
  rw [List.find?_eq_none] at h
  simpa using h s hs
theorem step_run (S : List (List Nat)) (r : List Nat) : ∀ k, FRun S r (stepF S r k).1 (stepF S r k).2
  | 0 => .nil
  | k + 1 => by
    cases h : S.find? (fun s => canT s (stepF S r k).2 r) with
    | none => rw [step_none h]; exact step_run S r k
    | some s => rw [step_some h]; exact .snoc (step_run S r k) h
theorem frun_step {S : List (List Nat)} {r t : List Nat} {tk : List (List Nat)} (h : FRun S r tk t) : stepF S r tk.length = (tk, t) := by
  induction h with
  | nil => rfl
  | @snoc tk t s h1 hf ih =>
    rw [List.length_append]
    have e : (stepF S r tk.length).2 = t := by rw [ih]
    have := step_some (S := S) (r := r) (s := s) (k := tk.length) (by rw [e]; exact hf)
    rw [ih] at this
    exact this
theorem step_stay {S : List (List Nat)} {r : List Nat} {k : Nat} (h : Fin S r (stepF S r k).2) : ∀ j, stepF S r (k + j) = stepF S r k
  | 0 => rfl
  | j + 1 => by
    have ih := step_stay h j
    have e := step_none (S := S) (r := r) (k := k + j) (by rw [ih]; exact fin_find h)
    rw [show k + (j + 1) = (k + j) + 1 from rfl, e, ih]
theorem step_alt (S : List (List Nat)) (r : List Nat) : ∀ k, Fin S r (stepF S r k).2 ∨ (stepF S r k).1.length = k
  | 0 => .inr rfl
  | k + 1 => by
    rcases step_alt S r k with h | h
    · exact .inl (by rw [step_stay h 1]; exact h)
    · cases hf : S.find? (fun s => canT s (stepF S r k).2 r) with
      | none => exact .inl (by rw [step_none hf]; exact find_fin hf)
      | some s => exact .inr (by rw [step_some hf, List.length_append, h]; rfl)
/-- what it takes, the told lot at the end -/
def grd (S : List (List Nat)) (r : List Nat) : List (List Nat) × List Nat := stepF S r r.length
theorem grd_run (S : List (List Nat)) (r : List Nat) : FRun S r (grd S r).1 (grd S r).2 := step_run S r _
theorem grd_fin {S : List (List Nat)} {r : List Nat} (hS : Len r.length S) : Fin S r (grd S r).2 := by
  rcases step_alt S r r.length with h | h
  · exact h
  · have hr := (step_run S r r.length).run
    have hd := run_dots hS hr
    have hl := run_len hS hr
    exact fin_of_dots (t := (stepF S r r.length).2) (by omega) fun s hs => by rw [hl]; exact hS s hs
theorem grd_uniq {S : List (List Nat)} {r t : List Nat} {tk : List (List Nat)} (hS : Len r.length S) (h : FRun S r tk t) (f : Fin S r t) : (tk, t) = grd S r := by
  have hd := run_dots hS h.run
  have e := frun_step h
  have e2 := step_stay (S := S) (r := r) (k := tk.length) (by rw [e]; exact f) (r.length - tk.length)
  rw [show tk.length + (r.length - tk.length) = r.length by omega] at e2
  show _ = stepF S r r.length
  rw [e2, e]
def madeB (S : List (List Nat)) (r : List Nat) : Bool := decide ((grd S r).2 = lotOf r)
/-! ### the closure -/
inductive Clo (S : List (List Nat)) (n : Nat) : List Nat → Prop where
  | blank : Clo S n (List.replicate n 46)
  | step {s r : List Nat} : s ∈ S → Clo S n r → Clo S n (ov s r)
theorem clo_len {S : List (List Nat)} {n : Nat} {r : List Nat} (hS : Len n S) (h : Clo S n r) : r.length = n := by
  induction h with
  | blank => rw [List.length_replicate]
  | step hs _ ih => rw [ov_len, ih, hS _ hs, Nat.min_self]
theorem ovd {x y : List Nat} (hl : x.length = y.length) {i : Nat} (hi : i < x.length) : (ov x y).getD i 0 = if x.getD i 0 = 46 then y.getD i 0 else x.getD i 0 := getD_of (ov_get (get_of_lt hi) (get_of_lt (l := y) (by omega)))
theorem lot_46 {r : List Nat} {i : Nat} (hi : i < r.length) : (lotOf r).getD i 0 = 46 ↔ r.getD i 0 = 46 := by
  rw [getD_of (lot_get (get_of_lt hi))]
  by_cases h : r.getD i 0 = 46
  · rw [if_pos h]; exact ⟨fun _ => h, fun _ => rfl⟩
  · rw [if_neg h]; exact ⟨(fun z => nomatch z), fun z => absurd z h⟩
theorem run_within {S : List (List Nat)} {r t : List Nat} {tk : List (List Nat)} (hS : Len r.length S) (h : Run S r tk t) : ∀ i : Nat, t.getD i 0 ≠ 46 → i < r.length → r.getD i 0 ≠ 46 := by
  induction h with
  | nil =>
    intro i hi hl
    refine absurd ?_ hi
    rw [List.getD_eq_getElem?_getD, List.getElem?_replicate, if_pos hl]; rfl
  | @snoc tk t s h1 hs hc ih =>
    intro i hi hl
    have hlen := run_len hS h1
    have hsl := hS s hs
    rw [ne_eq, ovl_46 (by omega)] at hi
    by_cases ht : t.getD i 0 = 46
    · have hs46 : s.getD i 0 ≠ 46 := fun z => hi ⟨ht, z⟩
      rw [bars_nil hc i ((mem_outs' (by omega)).mpr ⟨by omega, hs46, ht⟩)]
      exact hs46
    · exact ih i ht hl
theorem bin_get {t : List Nat} (h : Bin t) {i : Nat} (hi : i < t.length) (hn : t.getD i 0 ≠ 46) : t.getD i 0 = 43 := by
  rcases h _ (List.mem_of_getElem? (get_of_lt hi)) with e | e
  · exact absurd e hn
  · exact e
theorem lot_of_cover {S : List (List Nat)} {r t : List Nat} {tk : List (List Nat)} (hS : Len r.length S) (h : Run S r tk t) (hc : ∀ i : Nat, i < r.length → r.getD i 0 ≠ 46 → t.getD i 0 ≠ 46) : t = lotOf r := by
  have hl := run_len hS h
  refine ext_getD (by rw [hl, lotOf_len]) fun i hi => ?_
  by_cases e : r.getD i 0 = 46
  · rw [(lot_46 (by omega)).mpr e]
    by_cases z : t.getD i 0 = 46
    · exact z
    · exact absurd e (run_within hS h i z (by omega))
  · have h1 := hc i (by omega) e
    rw [bin_get (run_bin h) hi h1, bin_get (bin_lot r) (by rw [lotOf_len]; omega) (fun z => e ((lot_46 (by omega)).mp z))]
/-- a seed laid over a row: a final told lot covers the seed, and what the row's run tells -/
theorem cover_seed {S : List (List Nat)} {n : Nat} {s r t : List Nat} (hs : s ∈ S) (hsl : s.length = n) (hr : r.length = n) (ht : t.length = n) (f : Fin S (ov s r) t) : ∀ i : Nat, i < n → s.getD i 0 ≠ 46 → t.getD i 0 ≠ 46 := by
  intro i hi h1 h2
  have hc : canT s t (ov s r) = true := canT_of ⟨i, (mem_outs' (by omega)).mpr ⟨by omega, h1, h2⟩⟩ fun j hj => by
    obtain ⟨a, b, _⟩ := (mem_outs' (by omega)).mp hj
    rw [ovd (by omega) a, if_neg b]
  rw [f s hs] at hc
  cases hc
theorem cover_run {S : List (List Nat)} {n : Nat} {s r t t' : List Nat} {tk : List (List Nat)} (hS : Len n S) (hs : s ∈ S) (hr : r.length = n) (ht : t.length = n) (f : Fin S (ov s r) t) (h : Run S r tk t') : ∀ i : Nat, i < n → t'.getD i 0 ≠ 46 → t.getD i 0 ≠ 46 := by
  have hsl := hS s hs
  induction h with
  | nil =>
    intro i hi h1
    refine absurd ?_ h1
    rw [List.getD_eq_getElem?_getD, List.getElem?_replicate, if_pos (by omega)]; rfl
  | @snoc tk t' x h1 hx hc ih =>
    intro i hi h2 h3
    have hxl := hS x hx
    have hl := run_len (by rw [hr]; exact hS) h1
    rw [ne_eq, ovl_46 (by omega)] at h2
    by_cases e : t'.getD i 0 = 46
    · have hx46 : x.getD i 0 ≠ 46 := fun z => h2 ⟨e, z⟩
      have hcx : canT x t (ov s r) = true := canT_of ⟨i, (mem_outs' (by omega)).mpr ⟨by omega, hx46, h3⟩⟩ fun j hj => by
        obtain ⟨a, b, c⟩ := (mem_outs' (by omega)).mp hj
        have t46 : t'.getD j 0 = 46 := by
          by_cases z : t'.getD j 0 = 46
          · exact z
          · exact absurd c (ih j (by omega) z)
        have s46 : s.getD j 0 = 46 := by
          by_cases z : s.getD j 0 = 46
          · exact z
          · exact absurd c (cover_seed hs hsl hr ht f j (by omega) z)
        rw [ovd (by omega) (by omega), if_pos s46]
        exact bars_nil hc j ((mem_outs' (by omega)).mpr ⟨a, b, t46⟩)
      rw [f x hx] at hcx
      cases hcx
    · exact ih i hi e h3
theorem clo_made {S : List (List Nat)} {n : Nat} {r : List Nat} (hS : Len n S) (h : Clo S n r) : madeB S r = true := by
  induction h with
  | blank =>
    have hS' : Len (List.replicate n 46).length S := by rw [List.length_replicate]; exact hS
    refine decide_eq_true (lot_of_cover hS' (grd_run S _).run fun i hi e => absurd ?_ e)
    rw [List.length_replicate] at hi
    rw [List.getD_eq_getElem?_getD, List.getElem?_replicate, if_pos hi]; rfl
  | @step s r hs hc ih =>
    have hr := clo_len hS hc
    have hsl := hS s hs
    have hl : (ov s r).length = n := by rw [ov_len, hr, hsl, Nat.min_self]
    have hS' : Len (ov s r).length S := by rw [hl]; exact hS
    have hrun := (grd_run S (ov s r)).run
    have hf := grd_fin hS'
    have ht : (grd S (ov s r)).2.length = n := by rw [run_len hS' hrun, hl]
    have ih' : (grd S r).2 = lotOf r := of_decide_eq_true ih
    refine decide_eq_true (lot_of_cover hS' hrun fun i hi e => ?_)
    rw [hl] at hi
    rw [ovd (by omega) (by omega)] at e
    by_cases q : s.getD i 0 = 46
    · rw [if_pos q] at e
      refine cover_run hS hs hr ht hf (grd_run S r).run i hi ?_
      rw [ih']
      exact fun z => e ((lot_46 (by omega)).mp z)
    · exact cover_seed hs hsl hr ht hf i hi q
theorem clo_fold {S : List (List Nat)} {n : Nat} : ∀ {tk : List (List Nat)}, (∀ s ∈ tk, s ∈ S) → Clo S n (tk.foldr ov (List.replicate n 46))
  | [], _ => .blank
  | s :: tk, h => .step (h s List.mem_cons_self) (clo_fold fun z hz => h z (List.mem_cons_of_mem _ hz))
theorem made_clo {S : List (List Nat)} {n : Nat} {r : List Nat} (hS : Len n S) (hr : r.length = n) (h : madeB S r = true) : Clo S n r := by
  subst hr
  have hrun := (grd_run S r).run
  have e := lay_end hS hrun
  rw [mask_made (of_decide_eq_true h)] at e
  have c := clo_fold (n := r.length) (run_mem hrun)
  rw [e] at c
  exact c
theorem clo_iff {S : List (List Nat)} {n : Nat} {r : List Nat} (hS : Len n S) (hr : r.length = n) : Clo S n r ↔ madeB S r = true := ⟨clo_made hS, made_clo hS hr⟩
theorem ov_dots {x : List Nat} : ov (List.replicate x.length 46) x = x := by
  refine ext_getD (by rw [ov_len, List.length_replicate, Nat.min_self]) fun i hi => ?_
  rw [ov_len, List.length_replicate, Nat.min_self] at hi
  have e : (List.replicate x.length 46).getD i 0 = 46 := by rw [List.getD_eq_getElem?_getD, List.getElem?_replicate, if_pos hi]; rfl
  rw [ovd (by rw [List.length_replicate]) (by rw [List.length_replicate]; exact hi), if_pos e]
theorem ov_blank {x : List Nat} : ov x (List.replicate x.length 46) = x := by
  refine ext_getD (by rw [ov_len, List.length_replicate, Nat.min_self]) fun i hi => ?_
  rw [ov_len, List.length_replicate, Nat.min_self] at hi
  have e : (List.replicate x.length 46).getD i 0 = 46 := by rw [List.getD_eq_getElem?_getD, List.getElem?_replicate, if_pos hi]; rfl
  rw [ovd (by rw [List.length_replicate]) hi, e]
  by_cases q : x.getD i 0 = 46
  · rw [if_pos q, q]
  · rw [if_neg q]
theorem ov_as {x y z : List Nat} (h1 : x.length = y.length) (h2 : y.length = z.length) : ov (ov x y) z = ov x (ov y z) := by
  have l1 : (ov x y).length = x.length := by rw [ov_len, ← h1, Nat.min_self]
  have l2 : (ov y z).length = y.length := by rw [ov_len, ← h2, Nat.min_self]
  refine ext_getD (by rw [ov_len (ov x y) z, ov_len x (ov y z), l1, l2]; omega) fun i hi => ?_
  rw [ov_len, l1] at hi
  rw [ovd (by omega) (by omega), ovd h1 (by omega), ovd (by omega) (by omega), ovd h2 (by omega)]
  by_cases a : x.getD i 0 = 46
  · rw [if_pos a]; simp only [a, if_true]
  · rw [if_neg a, if_neg a]; simp only [a, if_false]
theorem clo_seed {S : List (List Nat)} {n : Nat} {s : List Nat} (hS : Len n S) (hs : s ∈ S) : Clo S n s := by
  have h := Clo.step (n := n) hs .blank
  have e : List.replicate n 46 = List.replicate s.length 46 := by rw [hS s hs]
  rw [e, ov_blank] at h
  exact h
theorem clo_ov {S : List (List Nat)} {n : Nat} {x y : List Nat} (hS : Len n S) (hx : Clo S n x) (hy : Clo S n y) : Clo S n (ov x y) := by
  have hl := clo_len hS hy
  induction hx with
  | blank => subst hl; rw [ov_dots]; exact hy
  | step hs hc ih => rw [ov_as (by rw [clo_len hS hc, hS _ hs]) (by rw [clo_len hS hc, hl])]; exact .step hs ih
theorem clo_sub {S S' : List (List Nat)} {n : Nat} {r : List Nat} (hS' : Len n S') (hm : ∀ s ∈ S, Clo S' n s) (h : Clo S n r) : Clo S' n r := by
  induction h with
  | blank => exact .blank
  | step hs _ ih => exact clo_ov hS' (hm _ hs) ih
/-! ### closures written down -/
/-- the rows of the closure, strictly rising -/
def IsRows (M S : List (List Nat)) (n : Nat) : Prop := (∀ z, z ∈ M ↔ Clo S n z) ∧ M.Pairwise (· < ·)
/-- at most 60 -/
def Small (S : List (List Nat)) (n : Nat) : Prop := ∀ F : List (List Nat), F.Nodup → (∀ z ∈ F, Clo S n z) → F.length ≤ 60
theorem lt_same : ∀ {M N : List (List Nat)}, M.Pairwise (· < ·) → N.Pairwise (· < ·) → (∀ z, z ∈ M ↔ z ∈ N) → M = N
  | [], [], _, _, _ => rfl
  | [], b :: N, _, _, h => absurd ((h b).mpr List.mem_cons_self) (fun z => nomatch z)
  | a :: M, [], _, _, h => absurd ((h a).mp List.mem_cons_self) (fun z => nomatch z)
  | a :: M, b :: N, hM, hN, h => by
    obtain ⟨m1, m2⟩ := List.pairwise_cons.mp hM
    obtain ⟨n1, n2⟩ := List.pairwise_cons.mp hN
    have e : a = b := by
      rcases List.mem_cons.mp ((h a).mp List.mem_cons_self) with e | ha
      · exact e
      · rcases List.mem_cons.mp ((h b).mpr List.mem_cons_self) with e | hb
        · exact e.symm
        · exact absurd (List.lt_trans (n1 a ha) (m1 b hb)) (List.lt_irrefl _)
    subst e
    congr 1
    refine lt_same m2 n2 fun z => ⟨fun hz => ?_, fun hz => ?_⟩
    · rcases List.mem_cons.mp ((h z).mp (List.mem_cons_of_mem _ hz)) with e | q
      · subst e; exact absurd (m1 z hz) (List.lt_irrefl _)
      · exact q
    · rcases List.mem_cons.mp ((h z).mpr (List.mem_cons_of_mem _ hz)) with e | q
      · subst e; exact absurd (n1 z hz) (List.lt_irrefl _)
      · exact q
theorem rows_nodup {M S : List (List Nat)} {n : Nat} (h : IsRows M S n) : M.Nodup := h.2.imp fun {a b} hab e => by subst e; exact List.lt_irrefl _ hab
/-- two lists of seeds: the rows written down are one list exactly if each seed of either list is made by the other -/
theorem rows_eq {M N S S' : List (List Nat)} {n : Nat} (hS : Len n S) (hS' : Len n S') (h : IsRows M S n) (h' : IsRows N S' n) : M = N ↔ (∀ s ∈ S, madeB S' s = true) ∧ (∀ s ∈ S', madeB S s = true) := by
  constructor
  · intro e
    subst e
    exact ⟨fun s hs => clo_made hS' ((h'.1 s).mp ((h.1 s).mpr (clo_seed hS hs))), fun s hs => clo_made hS ((h.1 s).mp ((h'.1 s).mpr (clo_seed hS' hs)))⟩
  · rintro ⟨a, b⟩
    exact lt_same h.2 h'.2 fun z => (h.1 z).trans (Iff.trans ⟨clo_sub hS' fun s hs => made_clo hS' (hS s hs) (a s hs), clo_sub hS fun s hs => made_clo hS (hS' s hs) (b s hs)⟩ (h'.1 z).symm)
theorem clo_mono {S S' : List (List Nat)} {n : Nat} {z : List Nat} (hm : ∀ s ∈ S', s ∈ S) (h : Clo S' n z) : Clo S n z := by
  induction h with
  | blank => exact .blank
  | step hs _ ih => exact .step (hm _ hs) ih
theorem small_same {S S' : List (List Nat)} {n : Nat} (h : Small S n) (hm : ∀ s ∈ S', s ∈ S) : Small S' n := fun F nd hF => h F nd fun z hz => clo_mono hm (hF z hz)

end Nt

namespace Nt
open PySem PySem.Spec PyProof.Rows L2


def wRow : List Nat := [114, 111, 119]
def wTake : List Nat := [116, 97, 107, 101]
def wMade : List Nat := [109, 97, 100, 101]
def wBar : List Nat := [98, 97, 114]
def wBarred : List Nat := [98, 97, 114, 114, 101, 100]
def szM (s : List Nat) : Option Nat := if s = wRow then some 2 else if s = wTake then some 2 else if s = wMade then some 1 else if s = wBar then some 3 else if s = wBarred then some 1 else none
def wordD (d : D) : D := match d with
  | .tup (.str s :: r) => if szM s = some (r.length + 1) then .str s else .non
  | _ => .non
def getD0 : Option Nat → D
  | some n => .int n
  | none => .non
def LnOk (d : D) : Prop := match d with
  | .tup ds => (∀ x ∈ ds, elOk x = true) ∧ ds.length ≤ 1000 ∧ ∀ s, D.str s ∈ ds → s.length ≤ 1000
  | .bag | .scr _ _ | .obj _ | .ins _ _ => False
  | _ => True
theorem LnOk.pl {d : D} (h : LnOk d) : d.pl = true := by cases d <;> first | rfl | exact h.elim
def isW (d : D) (s : List Nat) : Bool := isS (wordD d) s
theorem word_ok {d : D} (h : LnOk d) : elOk (wordD d) = true := by
  unfold wordD
  split
  · rename_i s r
    split
    · exact h.1 _ List.mem_cons_self
    · rfl
  · rfl
theorem isW_of {d : D} {s : List Nat} (h : isW d s = true) : ∃ r, d = .tup (.str s :: r) ∧ szM s = some (r.length + 1) := by
  unfold isW wordD at h
  split at h
  · rename_i s' r
    split at h
    · rename_i hz
      have e : s' = s := of_decide_eq_true h
      subst e
      exact ⟨r, rfl, hz⟩
    · cases h
  · cases h
theorem two_r {ds : List D} {n : Nat} (h : some n = some (ds.length + 1)) : ds.length + 1 = n := (Option.some.inj h).symm
def takeO (S : List (List Nat)) (r t : List Nat) (l : D) : Option (List Nat) := match l with
  | .tup [.str w, .str s] => if w = wTake ∧ s ∈ S ∧ canT s t r = true then some s else none
  | _ => none
def folM (S : List (List Nat)) (r : List Nat) : List Nat → List D → Nat × List Nat
  | t, [] => (0, t)
  | t, l :: ls => match takeO S r t l with
    | some s => ((folM S r (ov t (lotOf s)) ls).1 + 1, (folM S r (ov t (lotOf s)) ls).2)
    | none => (0, t)
def namesM (cs : List (List Nat × Nat)) (s t r : List Nat) : List (List Nat) := (bars s t r).map fun i => (cs.getD i ([], 0)).1
def barB (cs : List (List Nat × Nat)) (s t r : List Nat) (l : D) : Bool := match l with
  | .tup [.str w, x, n] => decide (w = wBar) && isS x s && inS n (namesM cs s t r)
  | _ => false
def cntM (cs : List (List Nat × Nat)) (t r : List Nat) : List (List Nat) → List D → Nat
  | s :: ws, l :: ls => if barB cs s t r l = true then cntM cs t r ws ls + 1 else 0
  | _, _ => 0
def isRowM (cs : List (List Nat × Nat)) (x : D) : Bool := match x with
  | .str r => decide (r.length = cs.length) && rowOk cs r
  | _ => false
/-- seeds of signs -/
def SOk (n : Nat) (S : List (List Nat)) : Prop := S.length ≤ 1000 ∧ Len n S ∧ ∀ s ∈ S, D.ok (.str s) = true
def Rg_is_row2 (ds : List D) (P : En → Prop) : Prop := ∃ (xc : D) (cs : List (List Nat × Nat)) (x : D), ds = [xc, x] ∧ Sq xc (cs.map cellD) ∧ cs.length ≤ 20 ∧ (∀ c ∈ cs, c.2 ≤ 4) ∧ elOk x = true ∧ (∀ s, x = .str s → s.length ≤ 1000) ∧ P (.dat (.bl (isRowM cs x)))
theorem len_is_row2 (ds P) (h : Rg_is_row2 ds P) : ds.length = 2 := by obtain ⟨_, _, _, rfl, _⟩ := h; rfl
def Rg_word_of (ds : List D) (P : En → Prop) : Prop := ∃ d, ds = [d] ∧ LnOk d ∧ P (.dat (wordD d))
theorem len_word_of (ds P) (h : Rg_word_of ds P) : ds.length = 1 := by obtain ⟨_, rfl, _⟩ := h; rfl
def Rg_follow_takes (ds : List D) (P : En → Prop) : Prop := ∃ (xs xp : D) (S : List (List Nat)) (r : List Nat) (h : D) (ls : List D), ds = [xs, .str r, xp] ∧ Sq xs (S.map D.str) ∧ Sq xp (h :: ls) ∧ SOk r.length S ∧ r.length ≤ 1000 ∧ (∀ l ∈ ls, LnOk l) ∧ ls.length ≤ 1000 ∧
  P (.dat (.tup [.int (1 + ((folM S r (List.replicate r.length 46) ls).1 : Int)), .str (folM S r (List.replicate r.length 46) ls).2]))
theorem len_follow_takes (ds P) (h : Rg_follow_takes ds P) : ds.length = 3 := by obtain ⟨_, _, _, _, _, _, rfl, _⟩ := h; rfl
def Rg_bar_holds (ds : List D) (P : En → Prop) : Prop := ∃ (xc : D) (cs : List (List Nat × Nat)) (s t r : List Nat) (l : D), ds = [xc, .str s, .str t, .str r, l] ∧ Sq xc (cs.map cellD) ∧ s.length = t.length ∧ s.length = r.length ∧ r.length = cs.length ∧ cs.length ≤ 20 ∧ D.ok (.str s) = true ∧ (∀ c ∈ cs, D.ok (.str c.1) = true) ∧ LnOk l ∧ P (.dat (.bl (barB cs s t r l)))
theorem len_bar_holds (ds P) (h : Rg_bar_holds ds P) : ds.length = 5 := by obtain ⟨_, _, _, _, _, _, rfl, _⟩ := h; rfl
def Rg_count_bars (ds : List D) (P : En → Prop) : Prop := ∃ (xc xl : D) (cs : List (List Nat × Nat)) (ws : List (List Nat)) (t r : List Nat) (ls : List D), ds = [xc, .lst (ws.map D.str), .str t, .str r, xl] ∧ Sq xc (cs.map cellD) ∧ Sq xl ls ∧ SOk r.length ws ∧ t.length = r.length ∧ r.length = cs.length ∧ cs.length ≤ 20 ∧ (∀ c ∈ cs, D.ok (.str c.1) = true) ∧ (∀ l ∈ ls, LnOk l) ∧ ls.length ≤ 1000 ∧
  P (.dat (.int ((cntM cs t r ws ls : Nat) : Int)))
theorem len_count_bars (ds P) (h : Rg_count_bars ds P) : ds.length = 5 := by obtain ⟨_, _, _, _, _, _, _, rfl, _⟩ := h; rfl
theorem num1_zip {L : List D} {i : Nat} {d : D × D} (h : ((num1 L.length).zip L)[i]? = some d) : i < L.length ∧ d.1 = .int (1 + (i : Int)) ∧ L[i]? = some d.2 := by
  obtain ⟨h1, h2⟩ := zip_get h
  have hl := (List.getElem?_eq_some_iff.mp h2).1
  refine ⟨hl, ?_, h2⟩
  unfold num1 at h1
  rw [List.getElem?_map, List.getElem?_range hl] at h1
  exact (Option.some.inj h1).symm
theorem drop_get {α : Type} {l : List α} {i : Nat} {x : α} (h : l[i]? = some x) : l.drop i = x :: l.drop (i + 1) := by
  obtain ⟨hl, e⟩ := List.getElem?_eq_some_iff.mp h
  rw [← e]; exact List.drop_eq_getElem_cons hl
theorem Sq.from {K : PySem.W.Frag} {te ti : TE} {ρ : List En} {x : D} {L : List D} {k : Nat} {i : Int} (q : Sq x L) (hi : i = (k : Int)) (h0 : 0 < k) (hk : k ≤ L.length) (hx : ED te ρ (· = x)) (ht : ED ti ρ (· = .int i)) : ∃ y, Sq y (L.drop k) ∧ ED (tSl (rSlU K) te (tPart ti) tNoPart) ρ (· = y) := by
  subst hi
  cases q with
  | lst =>
    have := e_sl hx (eo_part ht) eo_none (sd_lst (K := K) (ds := L) (lo := some (k : Int)) (hi := none))
    rw [cut_from (k := k) rfl hk] at this
    exact ⟨.lst (L.drop k), .lst _, EV.o1 this⟩
  | tup =>
    have := e_sl hx (eo_part ht) eo_none (sd_tup (K := K) (ds := L) (lo := some (k : Int)) (hi := none) (by
      rintro ⟨z, _⟩
      rw [HT.sIx_nat] at z
      omega))
    rw [cut_from (k := k) rfl hk] at this
    exact ⟨.tup (L.drop k), .tup _, EV.d1 this⟩
section
variable {P : Program} {w : World} {K : PySem.W.Frag} {mg : Str → Option Value} {base : Heap}
theorem ok_word_of (T : Txt K mg) (TDx : (∃ es n, KDict K w T.a_LINE_SIZES es n) ∧ ∀ z : Str, z ∉ (["row", "take", "made", "bar", "barred"] : List Str) → PySem.W.nsIn K T.a_LINE_SIZES z = some none)  : FnOk P w K mg base CX0 1 T.a_word_of T.d_word_of ["line"] (SpE Rg_word_of) := by
  obtain ⟨⟨es0, n0, TD_LINE_SIZES⟩, TDn⟩ := TDx
  refine T.F_word_of.ok sc_word_of (fun vs H Q E h => spE_len h len_word_of) (fun cdv A outer s H vs Q E hr h => ?_)
  have hu := hu64 hr
  have hvl : vs.length = 1 := spE_len h len_word_of
  refine ⟨_, (pss_cons (ps_if (PW.pt (pw_or (pt_not (pt_val (pe_callB (call_isiK1 (K := K) rfl) (by rfl) T.n_isinstance (by decide +kernel) (pa_cons (pv 0) (pa_cons (pe_bltn (v := .ty "tuple") (by rfl) T.n_tuple (by decide +kernel) rfl) pa_nil))))) (pw_or (pt_cmpR (op_eqK (K := K) rfl hu) (pe_callB (call_lenK (K := K) rfl) (by rfl) T.n_len (by decide +kernel) (pa_cons (pv 0) pa_nil)) pe_int (nomark _)) (pw_or1 (pt_not (pt_val (pe_callB (call_isiK1 (K := K) rfl) (by rfl) T.n_isinstance (by decide +kernel) (pa_cons (pe_ix (ix_K (K := K) rfl) (pv 0) pe_int (fun _ _ => rfl)) (pa_cons (pe_bltn (v := .ty "str") (by rfl) T.n_str (by decide +kernel) rfl) pa_nil))))))))) (pss_one (ps_ret pe_non)) pss_nil) (pss_one (ps_ret (pe_ifExp (pt_cmpR (op_eqK (K := K) rfl hu) (pe_kget2 TD_LINE_SIZES (by rfl) T.g_LINE_SIZES (pe_ix (ix_K (K := K) rfl) (pv 0) pe_int (fun _ _ => rfl)) ⟨rfl, rfl, rfl, rfl⟩) (pe_callB (call_lenK (K := K) rfl) (by rfl) T.n_len (by decide +kernel) (pa_cons (pv 0) pa_nil)) (nomark _)) (pe_ix (ix_K (K := K) rfl) (pv 0) pe_int (fun _ _ => rfl)) pe_non)))), fn_body h (by rw [hvl]; decide) (fun ds R hR hl => ?_)⟩
  obtain ⟨d, rfl, hd, q⟩ := hR
  have tT : kitB d.ty "tuple" = some (d.isU "tuple") := kitU hd.pl (by simp)
  by_cases ht : ∃ ds, d = .tup ds
  · obtain ⟨ds, rfl⟩ := ht
    cases ds with
    | nil =>
      exact q_if1 (b := true) ((et_or1 (et_not1 (et_v1 (e_isi (d := .tup []) (T := "tuple") (b := true) (e_var rfl) rfl tT))) (fun _ => et_or1 (c := true) (et_t1 (e_opd (EV.d1 (e_cb1 (ea_c (e_var (d := .tup []) rfl) ea_nil) cd_lenT)) e_int od_eqI)) (fun e => absurd e (by simp)))).is (by simp)) (fun _ => t_ret1 e_non q) (fun e => nomatch e)
    | cons x r =>
      have ix : ∀ ρ : List En, ρ[0]? = some (.dat (.tup (x :: r))) → ED (tOp (rIx K) (tVar 0) (tC (.int 0))) ρ (· = x) := fun ρ h => e_opd (e_var h) e_int (od_ixT (j := 0) rfl rfl)
      have hx : elOk x = true := hd.1 x List.mem_cons_self
      have xpl : x.pl = true := by cases x <;> first | rfl | exact absurd hx (by simp [elOk, D.ok])
      have xT : kitB x.ty "str" = some (x.isU "str") := kitU xpl (by simp)
      have tests : ∀ b : Bool, x.isU "str" = b → ∀ ρ : List En, ρ[0]? = some (.dat (.tup (x :: r))) → ET (tOr (tNot (tB (tCB (rIsi K) (tCons (tVar 0) (tCons (tC (.ty "tuple")) tNil))))) (tOr (tTest (tOp (rEqU K) (tCB (rLenU K) (tCons (tVar 0) tNil)) (tC (.int 0)))) (tNot (tB (tCB (rIsi K) (tCons (tOp (rIx K) (tVar 0) (tC (.int 0))) (tCons (tC (.ty "str")) tNil))))))) ρ (· = !b) := fun b hb ρ h =>
        (et_or1 (et_not1 (et_v1 (e_isi (d := .tup (x :: r)) (T := "tuple") (b := true) (e_var h) rfl tT))) (fun _ => et_or1 (et_t1 (e_opd (EV.d1 (e_cb1 (ea_c (e_var h) ea_nil) cd_lenT)) e_int od_eqI)) (fun _ => et_not1 (et_v1 (e_isi (ix ρ h) xpl xT))))).is (by rw [hb]; simp; omega)
      by_cases hs : ∃ s, x = .str s
      · obtain ⟨s, rfl⟩ := hs
        refine q_if1 (b := !true) (tests true rfl _ rfl) (fun e => nomatch e) (fun _ => ?_)
        have hn : (∃ n : Int, getD0 (szM s) = .int n ∧ ∃ u, PySem.W.nsIn K T.a_LINE_SIZES ⟨s.toArray⟩ = some (some u) ∧ RelV (.int n) u) ∨ (getD0 (szM s) = .non ∧ PySem.W.nsIn K T.a_LINE_SIZES ⟨s.toArray⟩ = some none) := by
          unfold szM
          by_cases h1 : s = wRow
          · rw [if_pos h1, h1]; exact .inl ⟨_, rfl, T.v_LINE_SIZES ("row", 2) (by simp)⟩
          rw [if_neg h1]
          by_cases h2 : s = wTake
          · rw [if_pos h2, h2]; exact .inl ⟨_, rfl, T.v_LINE_SIZES ("take", 2) (by simp)⟩
          rw [if_neg h2]
          by_cases h3 : s = wMade
          · rw [if_pos h3, h3]; exact .inl ⟨_, rfl, T.v_LINE_SIZES ("made", 1) (by simp)⟩
          rw [if_neg h3]
          by_cases h4 : s = wBar
          · rw [if_pos h4, h4]; exact .inl ⟨_, rfl, T.v_LINE_SIZES ("bar", 3) (by simp)⟩
          rw [if_neg h4]
          by_cases h5 : s = wBarred
          · rw [if_pos h5, h5]; exact .inl ⟨_, rfl, T.v_LINE_SIZES ("barred", 1) (by simp)⟩
          rw [if_neg h5]
          refine .inr ⟨rfl, TDn _ fun hm => ?_⟩
          have back : ∀ {z : Str} {l : List Nat}, (⟨s.toArray⟩ : Str) = z → z.cps.toList = l → s = l := fun {z l} e1 e2 => by rw [← e2, ← e1]
          simp only [List.mem_cons, List.not_mem_nil, or_false] at hm
          rcases hm with e | e | e | e | e
          · exact h1 (back e (by decide +kernel))
          · exact h2 (back e (by decide +kernel))
          · exact h3 (back e (by decide +kernel))
          · exact h4 (back e (by decide +kernel))
          · exact h5 (back e (by decide +kernel))
        have hcmp : ∀ ρ : List En, ρ[0]? = some (.dat (.tup (.str s :: r))) → ET (tTest (tOp (rEqU K) (tKG2 K T.a_LINE_SIZES (tOp (rIx K) (tVar 0) (tC (.int 0)))) (tCB (rLenU K) (tCons (tVar 0) tNil)))) ρ (· = decide (szM s = some (r.length + 1))) := fun ρ h => by
          have hlen : ED (tCB (rLenU K) (tCons (tVar 0) tNil)) ρ (· = .int ((r.length + 1 : Nat) : Int)) := EV.d1 (e_cb1 (ea_c (e_var h) ea_nil) cd_lenT)
          cases hz : szM s with
          | some n =>
            rw [hz] at hn
            refine (et_t1 (e_opd (e_kget2 (d := .int n) (ix ρ h) hn) hlen od_eqI)).is ?_
            exact decide_eq_decide.mpr ⟨fun e => by rw [show n = r.length + 1 by omega], fun e => by rw [Option.some.inj e]⟩
          | none =>
            rw [hz] at hn
            refine (et_t1 (e_opd (e_kget2 (d := .non) (ix ρ h) hn) hlen (?_ : OD (rEqU K) .non (.int ((r.length + 1 : Nat) : Int)) (· = .dat (.bl false))))).is (by simp)
            intro W v w' r1 r2 Q q
            refine .inr ⟨.none, .int ((r.length + 1 : Nat) : Int), el_dp (x := .non) W.le rfl r1, el_dp (x := .int _) W.le rfl r2, el_shaped (x := .non) rfl, el_shaped (x := .int _) rfl, ?_⟩
            exact dat1 (.bl _) q
        refine t_ret1 (d := wordD (.tup (.str s :: r))) (e_ifd (T := fun b => b = decide (szM s = some (r.length + 1))) (hcmp _ rfl) (fun e => ?_) (fun e => ?_)) q
        · rw [show wordD (.tup (.str s :: r)) = .str s from if_pos (of_decide_eq_true e.symm)]
          exact ix _ rfl
        · rw [show wordD (.tup (.str s :: r)) = .non from if_neg (of_decide_eq_false e.symm)]
          exact e_non
      · have hb : x.isU "str" = false := by cases x <;> first | rfl | exact absurd ⟨_, rfl⟩ hs
        refine q_if1 (b := !false) (tests false hb _ rfl) (fun _ => t_ret1 e_non ?_) (fun e => nomatch e)
        rw [show wordD (.tup (x :: r)) = .non by unfold wordD; split <;> first | (rename_i e; cases e; exact absurd ⟨_, rfl⟩ hs) | rfl] at q
        exact q
  · have hb : d.isU "tuple" = false := by cases d <;> first | rfl | exact absurd ⟨_, rfl⟩ ht
    rw [hb] at tT
    refine q_if1 (b := true) ((et_or1 (c := true) (et_not1 (et_v1 (e_isi (T := "tuple") (b := false) (e_var rfl) hd.pl tT))) (fun e => nomatch e)).is rfl) (fun _ => t_ret1 e_non ?_) (fun e => nomatch e)
    rw [show wordD d = .non by unfold wordD; split <;> first | (exact absurd ⟨_, rfl⟩ ht) | rfl] at q
    exact q

end
end Nt

namespace Nt
open PySem PySem.Spec PyProof.Rows L2


section
variable {P : Program} {w : World} {K : PySem.W.Frag} {mg : Str → Option Value} {base : Heap}
theorem e_word {X : XK} {ρ : List En} {te : TE} {d : D} (h : ED te ρ (· = d)) (hd : LnOk d) : ED (tCall (SpE Rg_word_of) [] X (tCons te tNil)) ρ (· = wordD d) := EV.d1 (e_call0 (R := fun e => e = .dat (wordD d)) (ea_c h ea_nil) ⟨d, rfl, hd, rfl⟩)
theorem okW : D.ok (.str wTake) = true ∧ D.ok (.str wRow) = true ∧ D.ok (.str wMade) = true ∧ D.ok (.str wBar) = true ∧ D.ok (.str wBarred) = true := ⟨rfl, rfl, rfl, rfl, rfl⟩
theorem takeO_no {S : List (List Nat)} {r t : List Nat} {d : D} (h : isW d wTake = false) : takeO S r t d = none := by
  unfold takeO
  split
  · rename_i w' s'
    split
    · rename_i hc
      obtain ⟨h1, _⟩ := hc
      subst h1
      cases h
    · rfl
  · rfl
theorem one_of {ds : List D} (h : ds.length + 1 = 2) : ∃ x, ds = [x] := by
  match ds, h with
  | [x], _ => exact ⟨x, rfl⟩
theorem two_of {ds : List D} (h : ds.length + 1 = 3) : ∃ x y, ds = [x, y] := by
  match ds, h with
  | [x, y], _ => exact ⟨x, y, rfl⟩
theorem sz_take : szM wTake = some 2 := rfl
theorem sz_bar : szM wBar = some 3 := rfl
theorem inS_str {x : D} {S : List (List Nat)} (h : inS x S = true) : ∃ s, x = .str s ∧ s ∈ S := by
  cases x with
  | str s => exact ⟨s, rfl, of_decide_eq_true h⟩
  | _ => cases h
theorem folM_len {S : List (List Nat)} {r : List Nat} (hL : Len r.length S) : ∀ (ls : List D) (t : List Nat), t.length = r.length → (folM S r t ls).2.length = r.length ∧ (folM S r t ls).1 ≤ ls.length
  | [], t, h => ⟨h, Nat.le_refl _⟩
  | l :: ls, t, h => by
    unfold folM
    cases e : takeO S r t l with
    | none => exact ⟨h, Nat.zero_le _⟩
    | some s =>
      have hs : s ∈ S := by
        unfold takeO at e
        split at e
        · split at e
          · rename_i hc
            cases e
            exact hc.2.1
          · cases e
        · cases e
      have := folM_len hL ls (ov t (lotOf s)) (by rw [ov_len, h]; have := hL s hs; simp [lotOf]; omega)
      exact ⟨this.1, by have := this.2; simp only [List.length_cons]; omega⟩

theorem ok_follow_takes (T : Txt K mg) (G_lot_of : FnOk P w K mg base CX0 1 T.a_lot_of T.d_lot_of ["row"] (SpE Rg_lot_of)) (G_blank : FnOk P w K mg base CX0 1 T.a_blank T.d_blank ["many"] (SpE Rg_blank)) (G_union : FnOk P w K mg base CX0 2 T.a_union T.d_union ["one", "other"] (SpE Rg_union)) (G_can_be_taken : FnOk P w K mg base CX0 3 T.a_can_be_taken T.d_can_be_taken ["seed", "told", "row"] (SpE Rg_can_be_taken)) (G_word_of : FnOk P w K mg base CX0 1 T.a_word_of T.d_word_of ["line"] (SpE Rg_word_of)) : FnOk P w K mg base CX0 4 T.a_follow_takes T.d_follow_takes ["seeds", "row", "paper"] (SpE Rg_follow_takes) := by
  refine T.F_follow_takes.ok sc_follow_takes (fun vs H Q E h => spE_len h len_follow_takes) (fun cdv A outer s H vs Q E hr h => ?_)
  have hu := hu64 hr
  have hvl : vs.length = 3 := spE_len h len_follow_takes
  refine ⟨_, (pss_cons (ps_set (i := 3) sc_follow_takes.nd rfl (Or.inl rfl) (pe_call G_blank (hr.mono (by decide)) (by rfl) T.g_blank T.F_blank.kp (b_blank T) .nil pass0 (pa_cons (pe_callB (call_lenK (K := K) rfl) (by rfl) T.n_len (by decide +kernel) (pa_cons (pv 1) pa_nil)) pa_nil))) (pss_cons (ps_for PassesOwn.never rfl (pi_enum1K (K := K) rfl (by rfl) T.n_enumerate (pa_cons (pe_slice (sl_K (K := K) rfl) (pv 2) (po_some pe_int) po_none) pa_nil)) (pg_tup rfl (pgs_cons (pg_name (i := 4) sc_follow_takes.nd rfl (Or.inl rfl)) (pgs_cons (pg_name (i := 5) sc_follow_takes.nd rfl (Or.inl rfl)) pgs_nil))) (pss_cons (ps_if (PW.pt (pw_or (pt_cmpR (op_neK (K := K) rfl hu) (pe_call G_word_of (hr.mono (by decide)) (by rfl) T.g_word_of T.F_word_of.kp (b_word_of T) .nil pass0 (pa_cons (pv 5) pa_nil)) pe_str (nomark _)) (pw_or (pt_cmpR (op_notInW (K := K) rfl (hu65 hr)) (pe_ix (ix_K (K := K) rfl) (pv 5) pe_int (fun _ _ => rfl)) (pv 0) (by rfl)) (pw_or1 (pt_not (pt_val (pe_call G_can_be_taken (hr.mono (by decide)) (by rfl) T.g_can_be_taken T.F_can_be_taken.kp (b_can_be_taken T) .nil pass0 (pa_cons (pe_ix (ix_K (K := K) rfl) (pv 5) pe_int (fun _ _ => rfl)) (pa_cons (pv 3) (pa_cons (pv 1) pa_nil)))))))))) (pss_one (ps_ret (pe_tup (pa_cons (pv 4) (pa_cons (pv 3) pa_nil))))) pss_nil) (pss_one (ps_set (i := 3) sc_follow_takes.nd rfl (Or.inl rfl) (pe_call G_union (hr.mono (by decide)) (by rfl) T.g_union T.F_union.kp (b_union T) .nil pass0 (pa_cons (pv 3) (pa_cons (pe_call G_lot_of (hr.mono (by decide)) (by rfl) T.g_lot_of T.F_lot_of.kp (b_lot_of T) .nil pass0 (pa_cons (pe_ix (ix_K (K := K) rfl) (pv 5) pe_int (fun _ _ => rfl)) pa_nil)) pa_nil))))))) (pss_one (ps_ret (pe_tup (pa_cons (pe_callB (call_lenK (K := K) rfl) (by rfl) T.n_len (by decide +kernel) (pa_cons (pv 2) pa_nil)) (pa_cons (pv 3) pa_nil))))))), fn_body h (by rw [hvl]; decide) (fun ds R hR hl => ?_)⟩
  obtain ⟨xs, xp, S, r, h0, ls, rfl, qs, qp, ⟨h1, h2, h2b⟩, h3, hls, h4, q⟩ := hR
  have hu6 := hu65 hr
  refine q_asg1 (EV.d1 (e_call0 (R := fun e => e = .dat (.str (List.replicate r.length 46))) (ea_c (EV.d1 (e_cb1 (ea_c (e_var rfl) ea_nil) (cd_lenS (by omega)))) ea_nil) ⟨r.length, rfl, h3, rfl⟩)) ?_
  obtain ⟨y, qy, hy⟩ := qp.from (K := K) (te := tVar 2) (ti := tC (.int 1)) (ρ := [.dat xs, .dat (.str r), .dat xp, .dat (.str (List.replicate r.length 46)), .un, .un]) (k := 1) (i := 1) rfl (by decide) (by simp) (e_var rfl) e_int
  have iv := iv_enum1 (K := K) qy.its (ea_c hy ea_nil)
  rw [show (h0 :: ls).drop 1 = ls from rfl] at iv
  refine t_seq (M := fun ρ' => ∃ t x4 x5, ρ' = [.dat xs, .dat (.str r), .dat xp, .dat (.str t), x4, x5] ∧ folM S r (List.replicate r.length 46) ls = (ls.length, t)) (t_for2 iv (fun ds i ρ' => ∃ t x4 x5, ρ' = [.dat xs, .dat (.str r), .dat xp, .dat (.str t), x4, x5] ∧ t.length = r.length ∧ folM S r (List.replicate r.length 46) ls = ((folM S r t (ls.drop i)).1 + i, (folM S r t (ls.drop i)).2)) (fun ds e => ⟨_, .un, .un, rfl, List.length_replicate, rfl⟩) (fun ds i d ρ' e hdi inv => ?_) (fun ds ρ' e ⟨t, x4, x5, e1, e2, e3⟩ => ⟨t, x4, x5, e1, ?_⟩)) fun ρ' m => ?_
  · subst e
    obtain ⟨t, x4, x5, rfl, htl, hf⟩ := inv
    obtain ⟨hlt, e1, e2⟩ := num1_zip hdi
    obtain ⟨d1, d2⟩ := d
    have e1' : d1 = .int (1 + (i : Int)) := e1
    have e2' : ls[i]? = some d2 := e2
    subst e1'
    rw [drop_get e2'] at hf
    have hd2 := hls d2 (List.mem_of_getElem? e2')
    have stop : takeO S r t d2 = none → R (.dat (.tup [.int (1 + (i : Int)), .str t])) := fun hn => by
      have e3 : folM S r t (d2 :: ls.drop (i + 1)) = (0, t) := by unfold folM; rw [hn]
      rw [e3] at hf
      rw [hf] at q
      have : ((0 + i : Nat) : Int) = (i : Int) := by omega
      rw [this] at q
      exact q
    have retE : ∀ ρ0 : List En, ρ0[3]? = some (.dat (.str t)) → ρ0[4]? = some (.dat (.int (1 + (i : Int)))) → ED (tTup (tCons (tVar 4) (tCons (tVar 3) tNil))) ρ0 (· = .tup [.int (1 + (i : Int)), .str t]) := fun ρ0 h3 h4 => e_tup1 (ea_c (e_var h4) (ea_c (e_var h3) ea_nil)) (by simp)
    by_cases hw : isW d2 wTake = true
    · obtain ⟨rr, rfl, hz⟩ := isW_of hw
      obtain ⟨x, rfl⟩ := one_of (ds := rr) (by rw [sz_take] at hz; exact two_r hz)
      have hx : elOk x = true := hd2.1 x (by simp)
      have ix1 : ∀ ρ0 : List En, ρ0[5]? = some (.dat (.tup [.str wTake, x])) → ED (tOp (rIx K) (tVar 5) (tC (.int 1))) ρ0 (· = x) := fun ρ0 h => e_opd (e_var h) e_int (od_ixT (j := 1) rfl rfl)
      by_cases hin : inS x S = true
      · obtain ⟨s, rfl, hS⟩ := inS_str hin
        have hsl := h2 s hS
        refine q_if1 (b := !(canT s t r)) ((et_or1 (et_t1 (e_opd (e_word (e_var rfl) hd2) (e_str (s := wTake) (by decide +kernel)) (od_neE (word_ok hd2) rfl))) (fun _ => et_or1 (et_t1 (e_opd (ix1 _ rfl) (e_var rfl) (od_inE (neg := true) hx qs h2b))) (fun _ => et_not1 (et_v1 (EV.d1 (e_call0 (Rg := Rg_can_be_taken) (R := fun e => e = .dat (.bl (canT s t r))) (ea_c (ix1 _ rfl) (ea_c (e_var rfl) (ea_c (e_var rfl) ea_nil))) ⟨s, t, r, rfl, by omega, hsl, by omega, rfl⟩)))))).is (by
          have hw' : isS (wordD (.tup [.str wTake, .str s])) wTake = true := hw
          rw [hw', hin]; simp)) (fun e => t_ret1 (retE _ rfl rfl) (stop <| by
          show (if wTake = wTake ∧ s ∈ S ∧ canT s t r = true then some s else none) = none
          rw [if_neg (fun z => by rw [z.2.2] at e; cases e)])) fun e => ?_
        have hc : canT s t r = true := by simpa using e
        have htk : takeO S r t (.tup [.str wTake, .str s]) = some s := if_pos ⟨rfl, hS, hc⟩
        refine t_asgd (PD := fun d => d = .str (ov t (lotOf s))) (EV.d1 (e_call0 (Rg := Rg_union) (R := fun e => e = .dat (.str (ov t (lotOf s)))) (ea_c (e_var rfl) (ea_c (EV.d1 (e_call0 (Rg := Rg_lot_of) (R := fun e => e = .dat (.str (lotOf s))) (ea_c (ix1 _ rfl) ea_nil) ⟨s, rfl, by omega, rfl⟩)) ea_nil)) ⟨t, lotOf s, rfl, by omega, rfl⟩)) fun d hd' => ⟨ov t (lotOf s), .dat (.int (1 + (i : Int))), .dat (.tup [.str wTake, .str s]), by rw [hd']; rfl, by rw [ov_len]; simp [lotOf]; omega, ?_⟩
        rw [hf]
        have e4 : folM S r t (.tup [.str wTake, .str s] :: ls.drop (i + 1)) = ((folM S r (ov t (lotOf s)) (ls.drop (i + 1))).1 + 1, (folM S r (ov t (lotOf s)) (ls.drop (i + 1))).2) := by
          conv => lhs; unfold folM
          rw [htk]
        rw [e4]
        exact Prod.ext (by show _ + 1 + i = _ + (i + 1); omega) rfl
      · have hin' : inS x S = false := by simpa using hin
        refine q_if1 (b := true) ((et_or1 (et_t1 (e_opd (e_word (e_var rfl) hd2) (e_str (s := wTake) (by decide +kernel)) (od_neE (word_ok hd2) rfl))) (fun _ => et_or1 (c := true) (et_t1 (e_opd (ix1 _ rfl) (e_var rfl) (od_inE (neg := true) hx qs h2b))) (fun e => absurd e (by rw [hin']; simp)))).is (by rw [hin']; simp)) (fun _ => t_ret1 (retE _ rfl rfl) (stop <| by
          unfold takeO
          split
          · rename_i w' s' e5
            split
            · rename_i hc
              have : D.str s' = x := by have := D.tup.inj e5; simp at this; exact this.2.symm
              rw [← this] at hin'
              have h6 : decide (s' ∈ S) = false := hin'
              exact absurd hc.2.1 (of_decide_eq_false h6)
            · rfl
          · rfl)) (fun e => nomatch e)
    · have hw' : isS (wordD d2) wTake = false := by simpa [isW] using hw
      exact q_if1 (b := true) ((et_or1 (c := true) (et_t1 (e_opd (e_word (e_var rfl) hd2) (e_str (s := wTake) (by decide +kernel)) (od_neE (word_ok hd2) rfl))) (fun e => absurd e (by rw [hw']; simp))).is (by rw [hw']; rfl)) (fun _ => t_ret1 (retE _ rfl rfl) (stop <| takeO_no hw')) (fun e => nomatch e)
  · subst e
    have hl : ((num1 ls.length).zip ls).length = ls.length := by simp [num1]
    rw [hl, List.drop_length] at e3
    rw [e3]
    show (0 + ls.length, t) = _
    rw [Nat.zero_add]
  · obtain ⟨t, x4, x5, rfl, hf⟩ := m
    rw [hf] at q
    refine t_ret1 (d := .tup [.int (1 + ((ls.length : Nat) : Int)), .str t]) (e_tup1 (ea_c ((EV.d1 (e_cb1 (ea_c (e_var rfl) ea_nil) (cd_lenSq qp))).is (by simp; omega)) (ea_c (e_var rfl) ea_nil)) (by simp)) q

theorem ok_bar_holds (T : Txt K mg) (G_barring : FnOk P w K mg base CX0 2 T.a_barring T.d_barring ["seed", "told", "row"] (SpE Rg_barring)) (G_word_of : FnOk P w K mg base CX0 1 T.a_word_of T.d_word_of ["line"] (SpE Rg_word_of)) : FnOk P w K mg base CX0 3 T.a_bar_holds T.d_bar_holds ["cells", "seed", "told", "row", "line"] (SpE Rg_bar_holds) := by
  refine T.F_bar_holds.ok sc_bar_holds (fun vs H Q E h => spE_len h len_bar_holds) (fun cdv A outer s H vs Q E hr h => ?_)
  have hu := hu64 hr
  have hvl : vs.length = 5 := spE_len h len_bar_holds
  refine ⟨_, (pss_cons (ps_if (PW.pt (pw_or (pt_cmpR (op_neK (K := K) rfl hu) (pe_call G_word_of (hr.mono (by decide)) (by rfl) T.g_word_of T.F_word_of.kp (b_word_of T) .nil pass0 (pa_cons (pv 4) pa_nil)) pe_str (nomark _)) (pw_or1 (pt_cmpR (op_neK (K := K) rfl hu) (pe_ix (ix_K (K := K) rfl) (pv 4) pe_int (fun _ _ => rfl)) (pv 1) (nomark _))))) (pss_one (ps_ret pe_bl)) pss_nil) (pss_one (ps_ret (pe_cmpR (op_inW (K := K) rfl (hu65 hr)) (pe_ix (ix_K (K := K) rfl) (pv 4) pe_int (fun _ _ => rfl)) (pe_lc (own := [("place", 5)]) (g := gName 5) (tt := tYes) rfl sc_bar_holds.nd (pi_listK (K := K) rfl (pe_call G_barring (hr.mono (by decide)) (by rfl) T.g_barring T.F_barring.kp (b_barring T) .nil pass0 (pa_cons (pv 1) (pa_cons (pv 2) (pa_cons (pv 3) pa_nil))))) (blkOk_by (N := N_bar_holds) (sc := defScope s_bar_holds) (by decide +kernel)) (fun _ _ _ _ _ => (pg_name (i := 5) sc_bar_holds.nd rfl (Or.inl rfl))) (fun _ _ _ _ _ => pts_nil) (fun _ _ _ _ _ => (pe_ix (ix_K (K := K) rfl) (pe_ix (ix_K (K := K) rfl) (pv 0) (pv 5) (fun _ _ => rfl)) pe_int (fun _ _ => rfl)))) (by rfl))))), fn_body h (by rw [hvl]; decide) (fun ds R hR hl => ?_)⟩
  obtain ⟨xc, cs, s, t, r, d, rfl, qc, h1, h2, h3, h4, hs, hcs, hd, q⟩ := hR
  have hnames : ∀ i ∈ bars s t r, i < cs.length := fun i hi => by
    unfold bars at hi
    have := outs_lt (List.mem_filter.mp hi).1
    omega
  have nob : ∀ {z : D}, isW z wBar = false → barB cs s t r z = false := fun {z} h => by
    unfold barB
    split
    · rename_i w' x' n'
      by_cases e : w' = wBar
      · subst e; cases h
      · rw [decide_eq_false e]; rfl
    · rfl
  by_cases hw : isW d wBar = true
  · obtain ⟨rr, rfl, hz⟩ := isW_of hw
    obtain ⟨x, n, rfl⟩ := two_of (ds := rr) (by rw [sz_bar] at hz; exact two_r hz)
    have hx : elOk x = true := hd.1 x (by simp)
    have hn : elOk n = true := hd.1 n (by simp)
    have ix1 : ∀ ρ0 : List En, ρ0[4]? = some (.dat (.tup [.str wBar, x, n])) → ED (tOp (rIx K) (tVar 4) (tC (.int 1))) ρ0 (· = x) := fun ρ0 h => e_opd (e_var h) e_int (od_ixT (j := 1) rfl rfl)
    have ix2 : ∀ ρ0 : List En, ρ0[4]? = some (.dat (.tup [.str wBar, x, n])) → ED (tOp (rIx K) (tVar 4) (tC (.int 2))) ρ0 (· = n) := fun ρ0 h => e_opd (e_var h) e_int (od_ixT (j := 2) rfl rfl)
    have e0 : barB cs s t r (.tup [.str wBar, x, n]) = (isS x s && inS n (namesM cs s t r)) := by show (decide (wBar = wBar) && isS x s && inS n (namesM cs s t r)) = _; rw [decide_eq_true rfl, Bool.true_and]
    rw [e0] at q
    refine q_if1 (b := !isS x s) ((et_or1 (et_t1 (e_opd (e_word (e_var rfl) hd) (e_str (s := wBar) (by decide +kernel)) (od_neE (word_ok hd) rfl))) (fun _ => et_t1 (e_opd (ix1 _ rfl) (e_var rfl) (od_neE hx hs)))).is (by
      have hw' : isS (wordD (.tup [.str wBar, x, n])) wBar = true := hw
      rw [hw']; rfl)) (fun e => t_ret1 e_bl (by rw [show isS x s = false by simpa using e] at q; exact q)) fun e => ?_
    rw [show isS x s = true by simpa using e] at q
    refine t_ret1 (d := .bl (inS n (namesM cs s t r))) (e_opd (ix2 _ rfl) (EV.o1 ((lc1_map (emb := fun (i : Nat) => D.int i) (f := fun i => D.str (cs.getD i ([], 0)).1) (iv_list1 (EV.o1 (e_call0 (R := fun e => e = .own ((bars s t r).map fun (i : Nat) => .int i)) (ea_c (e_var rfl) (ea_c (e_var rfl) (ea_c (e_var rfl) ea_nil))) ⟨s, t, r, rfl, h1, h2, by omega, rfl⟩))) ?_ fun i k hk => ?_).imp (R' := fun e => e = .own ((namesM cs s t r).map D.str)) fun e he => by rw [he]; unfold namesM; rw [List.map_map]; rfl)) (od_inE (neg := false) hn (.lst _) (fun z hz => ?_))) q
    · have := outs_len s t
      have h5 : (bars s t r).length ≤ (outs s t).length := List.length_filter_le _ _
      omega
    · have hk' := hnames k (List.mem_of_getElem? hk)
      have hcl : cs[k]? = some (cs.getD k ([], 0)) := by rw [List.getD_eq_getElem?_getD, List.getElem?_eq_getElem hk']; rfl
      exact e_opd (e_opd (e_var rfl) (e_var rfl) (od_ixSq (j := k) qc rfl (by rw [List.getElem?_map, hcl]; rfl))) e_int (od_ixT (j := 0) rfl rfl)
    · obtain ⟨i, hi, rfl⟩ := List.mem_map.mp hz
      have hk' := hnames i hi
      have hcl : cs[i]? = some (cs.getD i ([], 0)) := by rw [List.getD_eq_getElem?_getD, List.getElem?_eq_getElem hk']; rfl
      exact hcs _ (List.mem_of_getElem? hcl)
  · have hw' : isS (wordD d) wBar = false := by simpa [isW] using hw
    rw [nob hw'] at q
    exact q_if1 (b := true) ((et_or1 (c := true) (et_t1 (e_opd (e_word (e_var rfl) hd) (e_str (s := wBar) (by decide +kernel)) (od_neE (word_ok hd) rfl))) (fun e => absurd e (by rw [hw']; simp))).is (by rw [hw']; rfl)) (fun _ => t_ret1 e_bl q) (fun e => nomatch e)

theorem ok_count_bars (T : Txt K mg) (G_bar_holds : FnOk P w K mg base CX0 3 T.a_bar_holds T.d_bar_holds ["cells", "seed", "told", "row", "line"] (SpE Rg_bar_holds)) : FnOk P w K mg base CX0 4 T.a_count_bars T.d_count_bars ["cells", "waiting", "told", "row", "lines"] (SpE Rg_count_bars) := by
  refine T.F_count_bars.ok sc_count_bars (fun vs H Q E h => spE_len h len_count_bars) (fun cdv A outer s H vs Q E hr h => ?_)
  have hu := hu64 hr
  have hvl : vs.length = 5 := spE_len h len_count_bars
  refine ⟨_, (pss_cons (ps_set (i := 5) sc_count_bars.nd rfl (Or.inl rfl) pe_int) (pss_cons (ps_for PassesOwn.never rfl (pi_zipK (K := K) rfl (by rfl) T.n_zip (pa_cons (pv 1) (pa_cons (pv 4) pa_nil))) (pg_tup rfl (pgs_cons (pg_name (i := 6) sc_count_bars.nd rfl (Or.inl rfl)) (pgs_cons (pg_name (i := 7) sc_count_bars.nd rfl (Or.inl rfl)) pgs_nil))) (pss_cons (ps_if (pt_not (pt_val (pe_call G_bar_holds (hr.mono (by decide)) (by rfl) T.g_bar_holds T.F_bar_holds.kp (b_bar_holds T) .nil pass0 (pa_cons (pv 0) (pa_cons (pv 6) (pa_cons (pv 2) (pa_cons (pv 3) (pa_cons (pv 7) pa_nil)))))))) (pss_one (ps_ret (pv 5))) pss_nil) (pss_one (ps_set (i := 5) sc_count_bars.nd rfl (Or.inl rfl) (pe_op op_plus (pv 5) pe_int))))) (pss_one (ps_ret (pv 5))))), fn_body h (by rw [hvl]; decide) (fun ds R hR hl => ?_)⟩
  obtain ⟨xc, xl, cs, ws, t, r, ls, rfl, qc, ql, ⟨w1, w2, w3⟩, h1, h2, h3, hcs, hls, h4, q⟩ := hR
  refine q_asg1 e_int ?_
  refine t_seq (M := fun ρ' => ∃ x6 x7, ρ' = [.dat xc, .dat (.lst (ws.map D.str)), .dat (.str t), .dat (.str r), .dat xl, .dat (.int ((cntM cs t r ws ls : Nat) : Int)), x6, x7]) (t_for2 (iv_zip (.lst _) ql.its (ea_c (e_var rfl) (ea_c (e_var rfl) ea_nil))) (fun ds i ρ' => ∃ x6 x7, ρ' = [.dat xc, .dat (.lst (ws.map D.str)), .dat (.str t), .dat (.str r), .dat xl, .dat (.int (i : Nat)), x6, x7] ∧ cntM cs t r ws ls = cntM cs t r (ws.drop i) (ls.drop i) + i) (fun ds e => ⟨.un, .un, rfl, rfl⟩) (fun ds i d ρ' e hdi inv => ?_) (fun ds ρ' e ⟨x6, x7, a, hc⟩ => ⟨x6, x7, ?_⟩)) fun ρ' m => ?_
  · subst e
    obtain ⟨x6, x7, rfl, hc⟩ := inv
    obtain ⟨d1, d2⟩ := d
    obtain ⟨e1, e2⟩ := zip_get hdi
    obtain ⟨s, hs, e3⟩ := map_get e1
    have e3' : d1 = .str s := e3
    have e2' : ls[i]? = some d2 := e2
    subst e3'
    have hsm := List.mem_of_getElem? hs
    have hsl := w2 s hsm
    rw [drop_get hs, drop_get e2'] at hc
    have hbar : ∀ (X : XK) (ρ0 : List En), ρ0[0]? = some (.dat xc) → ρ0[6]? = some (.dat (.str s)) → ρ0[2]? = some (.dat (.str t)) → ρ0[3]? = some (.dat (.str r)) → ρ0[7]? = some (.dat d2) → ED (tCall (SpE Rg_bar_holds) [] X (tCons (tVar 0) (tCons (tVar 6) (tCons (tVar 2) (tCons (tVar 3) (tCons (tVar 7) tNil)))))) ρ0 (· = .bl (barB cs s t r d2)) := fun X ρ0 a0 a6 a2 a3 a7 =>
      EV.d1 (e_call0 (R := fun e => e = .dat (.bl (barB cs s t r d2))) (ea_c (e_var a0) (ea_c (e_var a6) (ea_c (e_var a2) (ea_c (e_var a3) (ea_c (e_var a7) ea_nil))))) ⟨xc, cs, s, t, r, d2, rfl, qc, by omega, by omega, h2, h3, w3 s hsm, hcs, hls d2 (List.mem_of_getElem? e2'), rfl⟩)
    refine q_if1 (b := !(barB cs s t r d2)) (et_not1 (et_v1 (hbar _ _ rfl rfl rfl rfl rfl))) (fun e => t_ret1 (e_var rfl) ?_) fun e => ?_
    · have e5 : barB cs s t r d2 = false := by simpa using e
      have e6 : cntM cs t r (s :: ws.drop (i + 1)) (d2 :: ls.drop (i + 1)) = 0 := by unfold cntM; rw [if_neg (by rw [e5]; exact Bool.false_ne_true)]
      rw [e6, Nat.zero_add] at hc
      rw [hc] at q
      exact q
    · have e5 : barB cs s t r d2 = true := by simpa using e
      have e6 : cntM cs t r (s :: ws.drop (i + 1)) (d2 :: ls.drop (i + 1)) = cntM cs t r (ws.drop (i + 1)) (ls.drop (i + 1)) + 1 := by
        conv => lhs; unfold cntM
        rw [if_pos e5]
      refine t_asgd (PD := fun d => d = .int ((i : Int) + 1)) (e_opd (e_var rfl) e_int od_addI) fun d hd => ⟨.dat (.str s), .dat d2, ?_, by rw [hc, e6]; omega⟩
      rw [hd]
      rfl
  · rw [a, hc, e, List.length_zip, List.length_map]
    have : cntM cs t r (ws.drop (min ws.length ls.length)) (ls.drop (min ws.length ls.length)) = 0 := by
      rcases Nat.le_total ws.length ls.length with h | h
      · rw [Nat.min_eq_left h, List.drop_length]; cases ls.drop ws.length <;> rfl
      · rw [Nat.min_eq_right h, List.drop_length]; cases ws.drop ls.length <;> rfl
    rw [this, Nat.zero_add]
  · obtain ⟨x6, x7, rfl⟩ := m
    exact t_ret1 (e_var rfl) q

theorem ok_is_row2 (T : Txt K mg)  : FnOk P w K mg base CX0 1 T.a_is_row T.d_is_row ["cells", "value"] (SpE Rg_is_row2) := by
  refine T.F_is_row.ok sc_is_row (fun vs H Q E h => spE_len h len_is_row2) (fun cdv A outer s H vs Q E hr h => ?_)
  have hu := hu64 hr
  have hvl : vs.length = 2 := spE_len h len_is_row2
  refine ⟨_, (pss_cons (ps_if (PW.pt (pw_or (pt_not (pt_val (pe_callB (call_isiK1 (K := K) rfl) (by rfl) T.n_isinstance (by decide +kernel) (pa_cons (pv 1) (pa_cons (pe_bltn (v := .ty "str") (by rfl) T.n_str (by decide +kernel) rfl) pa_nil))))) (pw_or1 (pt_cmpR (op_neK (K := K) rfl hu) (pe_callB (call_lenK (K := K) rfl) (by rfl) T.n_len (by decide +kernel) (pa_cons (pv 1) pa_nil)) (pe_callB (call_lenK (K := K) rfl) (by rfl) T.n_len (by decide +kernel) (pa_cons (pv 0) pa_nil)) (nomark _))))) (pss_one (ps_ret pe_bl)) pss_nil) (pss_one (ps_ret (pe_callB (call_allK (K := K) rfl rfl) (by rfl) T.n_all (by decide +kernel) (pa_cons (pe_lc (own := [("sign", 2), ("cell", 3)]) (g := gTup K 2 (gCons (gName 2) (gCons (gName 3) gNil))) (tt := tYes) rfl sc_is_row.nd (pi_zipK (K := K) rfl (by rfl) T.n_zip (pa_cons (pv 1) (pa_cons (pv 0) pa_nil))) (blkOk_by (N := N_is_row) (sc := defScope s_is_row) (by decide +kernel)) (fun _ _ _ _ _ => (pg_tup rfl (pgs_cons (pg_name (i := 2) sc_is_row.nd rfl (Or.inl rfl)) (pgs_cons (pg_name (i := 3) sc_is_row.nd rfl (Or.inl rfl)) pgs_nil)))) (fun _ _ _ _ _ => pts_nil) (fun _ _ _ _ _ => (pe_or (pe_cmpR (op_eqK (K := K) rfl hu) (pv 2) (pe_glob (v := .str ".") rfl T.c_DOT ⟨_, rfl⟩) (nomark _)) (pe_one (pe_cmpR (op_inK (K := K) rfl) (pv 2) (pe_slice (sl_K (K := K) rfl) (pe_glob (v := .str "0123") rfl T.c_DIGITS ⟨_, rfl⟩) po_none (po_some (pe_ix (ix_K (K := K) rfl) (pv 3) pe_int (fun _ _ => rfl)))) (by rfl)))))) pa_nil))))), fn_body h (by rw [hvl]; decide) (fun ds R hR hl => ?_)⟩
  obtain ⟨xc, cs, x, rfl, qc, h2, h3, hx, hxl, q⟩ := hR
  have xpl : x.pl = true := by cases x <;> first | rfl | exact absurd hx (by simp [elOk, D.ok])
  have xT : kitB x.ty "str" = some (x.isU "str") := kitU xpl (by simp)
  by_cases hs : ∃ r, x = .str r
  · obtain ⟨r, rfl⟩ := hs
    have hrl := hxl r rfl
    refine q_if1 (b := !decide ((r.length : Int) = (cs.map cellD).length)) ((et_or1 (et_not1 (et_v1 (e_isi (d := .str r) (T := "str") (b := true) (e_var rfl) rfl xT))) (fun _ => et_t1 (e_opd (EV.d1 (e_cb1 (ea_c (e_var rfl) ea_nil) (cd_lenS (by omega)))) (EV.d1 (e_cb1 (ea_c (e_var rfl) ea_nil) (cd_lenSq qc))) od_neI))).is (by simp)) (fun e => t_ret1 e_bl ?_) (fun e => ?_)
    · have h1 : ¬ r.length = cs.length := fun z => by rw [List.length_map, z] at e; simp at e
      rw [show isRowM cs (.str r) = false by show (decide (r.length = cs.length) && rowOk cs r) = false; rw [decide_eq_false h1]; rfl] at q
      exact q
    have h1 : r.length = cs.length := by rw [List.length_map] at e; simp at e; omega
    rw [show isRowM cs (.str r) = rowOk cs r by show (decide (r.length = cs.length) && rowOk cs r) = _; rw [decide_eq_true h1, Bool.true_and]] at q
    have e2 : (chs r).zip (cs.map cellD) = (r.zip cs).map fun p => (D.str [p.1], cellD p.2) := by
      unfold chs
      rw [List.zip_map]; rfl
    have iv := iv_zip (K := K) (ρ := [.dat xc, .dat (.str r), .un, .un]) (.str r) qc.its (ea_c (e_var (i := 1) rfl) (ea_c (e_var (i := 0) rfl) ea_nil))
    rw [e2] at iv
    refine t_ret1 (d := .bl (rowOk cs r)) (EV.d1 (e_cb1 (ea_c (EV.o1 ((lc2_map (f := fun (p : Nat × (List Nat × Nat)) => D.bl (decide (p.1 = 46) || decide (p.1 ∈ [48, 49, 50, 51].take p.2.2))) (by decide) iv (by rw [List.length_zip]; omega) fun i p hp => ?_).imp fun e he => ?_)) ea_nil) (cd_all (bs := (r.zip cs).map fun (p : Nat × (List Nat × Nat)) => decide (p.1 = 46) || decide (p.1 ∈ [48, 49, 50, 51].take p.2.2))))) q
    · have hm : p.2.2 ≤ 4 := h3 _ (List.mem_of_getElem? (zip_get hp).2)
      rw [← str1 p.1 46]
      refine e_or (e_opd (e_var rfl) (e_str (s := [46]) (by decide +kernel)) od_eqS) fun _ => ?_
      rw [← cut_to (xs := [48, 49, 50, 51]) (i := (p.2.2 : Int)) rfl hm]
      exact e_opd (e_var rfl) (EV.d1 (e_sl (e_str (s := [48, 49, 50, 51]) (by decide +kernel)) eo_none (eo_part (e_opd (e_var rfl) e_int (od_ixT (j := 1) rfl rfl))) (sd_str (by decide)))) od_sgn
    · rw [he, List.map_map]; rfl
  · have hb : x.isU "str" = false := by cases x <;> first | rfl | exact absurd ⟨_, rfl⟩ hs
    refine q_if1 (b := true) ((et_or1 (c := true) (et_not1 (et_v1 (e_isi (T := "str") (b := false) (e_var rfl) xpl (by rw [xT, hb])))) (fun e => nomatch e)).is rfl) (fun _ => t_ret1 e_bl ?_) (fun e => nomatch e)
    rw [show isRowM cs x = false by cases x <;> first | rfl | exact absurd ⟨_, rfl⟩ hs] at q
    exact q

end
end Nt

namespace Nt
open PySem PySem.Spec PyProof.Rows L2


def PapOk (d : D) : Prop := match d with
  | .lst L | .tup L => (∀ l ∈ L, LnOk l) ∧ L.length ≤ 1000
  | .bag | .scr _ _ | .obj _ | .ins _ _ => False
  | _ => True
theorem PapOk.pl {d : D} (h : PapOk d) : d.pl = true := by cases d <;> first | rfl | exact h.elim
theorem PapOk.sq {d : D} {L : List D} (h : PapOk d) (q : Sq d L) : (∀ l ∈ L, LnOk l) ∧ L.length ≤ 1000 := by cases q <;> exact h
def CsOk (cs : List (List Nat × Nat)) : Prop := cs.length ≤ 20 ∧ (∀ c ∈ cs, c.2 ≤ 4) ∧ ∀ c ∈ cs, D.ok (.str c.1) = true
def headR (cs : List (List Nat × Nat)) (h : D) : Option (List Nat) := match h with
  | .tup [.str w, .str r] => if w = wRow ∧ isRowM cs (.str r) = true then some r else none
  | _ => none
def endB (cs : List (List Nat × Nat)) (S : List (List Nat)) (r t : List Nat) (b : Nat) (l : D) : Bool := if t = lotOf r then decide (b = 0) && isW l wMade else decide (b = (waitS S t).length) && isW l wBarred
def lookL (cs : List (List Nat × Nat)) (S : List (List Nat)) (r : List Nat) (a : Nat) (t : List Nat) (ls : List D) : D :=
  match ls[a + cntM cs t r (waitS S t) (ls.drop a)]? with
  | none => .int (1 + ((a + cntM cs t r (waitS S t) (ls.drop a) : Nat) : Int))
  | some l => if endB cs S r t (cntM cs t r (waitS S t) (ls.drop a)) l = true then (if a + cntM cs t r (waitS S t) (ls.drop a) + 1 = ls.length then .non else .int (1 + ((a + cntM cs t r (waitS S t) (ls.drop a) : Nat) : Int) + 1)) else .int (1 + ((a + cntM cs t r (waitS S t) (ls.drop a) : Nat) : Int))
def lookH (cs : List (List Nat × Nat)) (S : List (List Nat)) : List D → D
  | [] => .int 0
  | h :: ls => match headR cs h with
    | some r => lookL cs S r (folM S r (List.replicate r.length 46) ls).1 (folM S r (List.replicate r.length 46) ls).2 ls
    | none => .int 0
def lookM (cs : List (List Nat × Nat)) (S : List (List Nat)) (d : D) : D := match d with
  | .lst L | .tup L => lookH cs S L
  | _ => .int 0
def Rg_look (ds : List D) (P : En → Prop) : Prop := ∃ (xc xs : D) (cs : List (List Nat × Nat)) (S : List (List Nat)) (d : D), ds = [xc, xs, d] ∧ Sq xc (cs.map cellD) ∧ Sq xs (S.map D.str) ∧ CsOk cs ∧ SOk cs.length S ∧ PapOk d ∧ P (.dat (lookM cs S d))
theorem len_look (ds P) (h : Rg_look ds P) : ds.length = 3 := by obtain ⟨_, _, _, _, _, rfl, _⟩ := h; rfl
theorem cnt_le (cs : List (List Nat × Nat)) (t r : List Nat) : ∀ (ws : List (List Nat)) (ls : List D), cntM cs t r ws ls ≤ ws.length ∧ cntM cs t r ws ls ≤ ls.length
  | [], ls => by cases ls <;> exact ⟨Nat.zero_le _, Nat.zero_le _⟩
  | s :: ws, [] => ⟨Nat.zero_le _, Nat.zero_le _⟩
  | s :: ws, l :: ls => by
    unfold cntM
    by_cases h : barB cs s t r l = true
    · rw [if_pos h]
      have := cnt_le cs t r ws ls
      exact ⟨Nat.succ_le_succ this.1, Nat.succ_le_succ this.2⟩
    · rw [if_neg h]; exact ⟨Nat.zero_le _, Nat.zero_le _⟩
theorem seq_or (d : D) : (∃ L, Sq d L) ∨ (d.isU "list" = false ∧ d.isU "tuple" = false) := by
  cases d <;> first | exact .inl ⟨_, .lst _⟩ | exact .inl ⟨_, .tup _⟩ | exact .inr ⟨rfl, rfl⟩
theorem sq_isU {d : D} {L : List D} (q : Sq d L) : (d.isU "list" || d.isU "tuple") = true := by cases q <;> rfl
theorem lookM_sq {cs : List (List Nat × Nat)} {S : List (List Nat)} {d : D} {L : List D} (q : Sq d L) : lookM cs S d = lookH cs S L := by cases q <;> rfl
theorem lookM_no {cs : List (List Nat × Nat)} {S : List (List Nat)} {d : D} (h1 : d.isU "list" = false) (h2 : d.isU "tuple" = false) : lookM cs S d = .int 0 := by
  cases d with
  | tup xs => simp [D.isU] at h2
  | lst xs => simp [D.isU] at h1
  | _ => rfl
theorem headR_no {cs : List (List Nat × Nat)} {h : D} (e : isW h wRow = false) : headR cs h = none := by
  unfold headR
  split
  · rename_i w' r'
    split
    · rename_i hc
      obtain ⟨h1, _⟩ := hc
      subst h1
      cases e
    · rfl
  · rfl
theorem lookH_none {cs : List (List Nat × Nat)} {S : List (List Nat)} {h : D} {ls : List D} (e : headR cs h = none) : lookH cs S (h :: ls) = .int 0 := by
  simp only [lookH, e]
theorem lookH_some {cs : List (List Nat × Nat)} {S : List (List Nat)} {h : D} {ls : List D} {r : List Nat} (e : headR cs h = some r) : lookH cs S (h :: ls) = lookL cs S r (folM S r (List.replicate r.length 46) ls).1 (folM S r (List.replicate r.length 46) ls).2 ls := by
  simp only [lookH, e]
theorem sz_row : szM wRow = some 2 := rfl
section
variable {P : Program} {w : World} {K : PySem.W.Frag} {mg : Str → Option Value} {base : Heap}

theorem ok_look (T : Txt K mg) (G_is_row : FnOk P w K mg base CX0 1 T.a_is_row T.d_is_row ["cells", "value"] (SpE Rg_is_row2)) (G_lot_of : FnOk P w K mg base CX0 1 T.a_lot_of T.d_lot_of ["row"] (SpE Rg_lot_of)) (G_tellers_outside : FnOk P w K mg base CX0 2 T.a_tellers_outside T.d_tellers_outside ["seeds", "told"] (SpE Rg_tellers_outside)) (G_word_of : FnOk P w K mg base CX0 1 T.a_word_of T.d_word_of ["line"] (SpE Rg_word_of)) (G_follow_takes : FnOk P w K mg base CX0 4 T.a_follow_takes T.d_follow_takes ["seeds", "row", "paper"] (SpE Rg_follow_takes)) (G_count_bars : FnOk P w K mg base CX0 4 T.a_count_bars T.d_count_bars ["cells", "waiting", "told", "row", "lines"] (SpE Rg_count_bars)) : FnOk P w K mg base CX0 5 T.a_look T.d_look ["cells", "seeds", "paper"] (SpE Rg_look) := by
  refine T.F_look.ok sc_look (fun vs H Q E h => spE_len h len_look) (fun cdv A outer s H vs Q E hr h => ?_)
  have hu := hu64 hr
  have hvl : vs.length = 3 := spE_len h len_look
  refine ⟨_, (pss_cons (ps_if (PW.pt (pw_or (pt_not (pt_val (pe_callB (call_isiK2 (K := K) rfl) (by rfl) T.n_isinstance (by decide +kernel) (pa_cons (pv 2) (pa_cons (pe_tup (pa_cons (pe_bltn (v := .ty "list") (by rfl) T.n_list (by decide +kernel) rfl) (pa_cons (pe_bltn (v := .ty "tuple") (by rfl) T.n_tuple (by decide +kernel) rfl) pa_nil))) pa_nil))))) (pw_or1 (pt_cmpR (op_eqK (K := K) rfl hu) (pe_callB (call_lenK (K := K) rfl) (by rfl) T.n_len (by decide +kernel) (pa_cons (pv 2) pa_nil)) pe_int (nomark _))))) (pss_one (ps_ret pe_int)) pss_nil) (pss_cons (ps_if (PW.pt (pw_or (pt_cmpR (op_neK (K := K) rfl hu) (pe_call G_word_of (hr.mono (by decide)) (by rfl) T.g_word_of T.F_word_of.kp (b_word_of T) .nil pass0 (pa_cons (pe_ix (ix_K (K := K) rfl) (pv 2) pe_int (fun _ _ => rfl)) pa_nil)) pe_str (nomark _)) (pw_or1 (pt_not (pt_val (pe_call G_is_row (hr.mono (by decide)) (by rfl) T.g_is_row T.F_is_row.kp (b_is_row T) .nil pass0 (pa_cons (pv 0) (pa_cons (pe_ix (ix_K (K := K) rfl) (pe_ix (ix_K (K := K) rfl) (pv 2) pe_int (fun _ _ => rfl)) pe_int (fun _ _ => rfl)) pa_nil)))))))) (pss_one (ps_ret pe_int)) pss_nil) (pss_cons (ps_set (i := 3) sc_look.nd rfl (Or.inl rfl) (pe_ix (ix_K (K := K) rfl) (pe_ix (ix_K (K := K) rfl) (pv 2) pe_int (fun _ _ => rfl)) pe_int (fun _ _ => rfl))) (pss_cons (ps_asg (pe_call G_follow_takes (hr.mono (by decide)) (by rfl) T.g_follow_takes T.F_follow_takes.kp (b_follow_takes T) .nil pass0 (pa_cons (pv 1) (pa_cons (pv 3) (pa_cons (pv 2) pa_nil)))) (pg_tup rfl (pgs_cons (pg_name (i := 4) sc_look.nd rfl (Or.inl rfl)) (pgs_cons (pg_name (i := 5) sc_look.nd rfl (Or.inl rfl)) pgs_nil)))) (pss_cons (ps_set (i := 6) sc_look.nd rfl (Or.inl rfl) (pe_call G_tellers_outside (hr.mono (by decide)) (by rfl) T.g_tellers_outside T.F_tellers_outside.kp (b_tellers_outside T) .nil pass0 (pa_cons (pv 1) (pa_cons (pv 5) pa_nil)))) (pss_cons (ps_set (i := 7) sc_look.nd rfl (Or.inl rfl) (pe_call G_count_bars (hr.mono (by decide)) (by rfl) T.g_count_bars T.F_count_bars.kp (b_count_bars T) .nil pass0 (pa_cons (pv 0) (pa_cons (pv 6) (pa_cons (pv 5) (pa_cons (pv 3) (pa_cons (pe_slice (sl_K (K := K) rfl) (pv 2) (po_some (pv 4)) po_none) pa_nil))))))) (pss_cons (ps_set (i := 4) sc_look.nd rfl (Or.inl rfl) (pe_op op_plus (pv 4) (pv 7))) (pss_cons (ps_if (pt_cmpR (op_eqK (K := K) rfl hu) (pv 4) (pe_callB (call_lenK (K := K) rfl) (by rfl) T.n_len (by decide +kernel) (pa_cons (pv 2) pa_nil)) (nomark _)) (pss_one (ps_ret (pv 4))) pss_nil) (pss_cons (ps_if (pt_cmpR (op_eqK (K := K) rfl hu) (pv 5) (pe_call G_lot_of (hr.mono (by decide)) (by rfl) T.g_lot_of T.F_lot_of.kp (b_lot_of T) .nil pass0 (pa_cons (pv 3) pa_nil)) (nomark _)) (pss_one (ps_set (i := 8) sc_look.nd rfl (Or.inl rfl) (pe_and (pe_cmpR (op_eqK (K := K) rfl hu) (pv 7) pe_int (nomark _)) (pe_one (pe_cmpR (op_eqK (K := K) rfl hu) (pe_call G_word_of (hr.mono (by decide)) (by rfl) T.g_word_of T.F_word_of.kp (b_word_of T) .nil pass0 (pa_cons (pe_ix (ix_K (K := K) rfl) (pv 2) (pv 4) (fun _ _ => rfl)) pa_nil)) pe_str (nomark _)))))) (pss_one (ps_set (i := 8) sc_look.nd rfl (Or.inl rfl) (pe_and (pe_cmpR (op_eqK (K := K) rfl hu) (pv 7) (pe_callB (call_lenK (K := K) rfl) (by rfl) T.n_len (by decide +kernel) (pa_cons (pv 6) pa_nil)) (nomark _)) (pe_one (pe_cmpR (op_eqK (K := K) rfl hu) (pe_call G_word_of (hr.mono (by decide)) (by rfl) T.g_word_of T.F_word_of.kp (b_word_of T) .nil pass0 (pa_cons (pe_ix (ix_K (K := K) rfl) (pv 2) (pv 4) (fun _ _ => rfl)) pa_nil)) pe_str (nomark _))))))) (pss_cons (ps_if (pt_not (pt_val (pv 8))) (pss_one (ps_ret (pv 4))) pss_nil) (pss_one (ps_ret (pe_ifExp (pt_cmpR (op_eqK (K := K) rfl hu) (pe_op op_plus (pv 4) pe_int) (pe_callB (call_lenK (K := K) rfl) (by rfl) T.n_len (by decide +kernel) (pa_cons (pv 2) pa_nil)) (nomark _)) pe_non (pe_op op_plus (pv 4) pe_int)))))))))))))), fn_body h (by rw [hvl]; decide) (fun ds R hR hl => ?_)⟩
  obtain ⟨xc, xs, cs, S, d, rfl, qc, qs, ⟨c1, c2, c3⟩, hS, hd, q⟩ := hR
  have isq : ∀ ρ0 : List En, ρ0[2]? = some (.dat d) → ED (tCB (rIsiT K) (tCons (tVar 2) (tCons (tTup (tCons (tC (.ty "list")) (tCons (tC (.ty "tuple")) tNil))) tNil))) ρ0 (· = .bl (d.isU "list" || d.isU "tuple")) := fun ρ0 h => e_isi2 (e_var h) hd.pl (kitU hd.pl (by simp)) (kitU hd.pl (by simp))
  rcases seq_or d with ⟨L, ql⟩ | ⟨hn1, hn2⟩
  rotate_left
  · refine q_if1 (b := true) ((et_or1 (c := true) (et_not1 (et_v1 (isq _ rfl))) (fun e => by rw [hn1, hn2] at e; cases e)).is (by rw [hn1, hn2]; rfl)) (fun _ => t_ret1 e_int ?_) (fun e => nomatch e)
    rw [lookM_no hn1 hn2] at q
    exact q
  rw [lookM_sq ql] at q
  obtain ⟨hL, hLl⟩ := hd.sq ql
  cases L with
  | nil =>
    exact q_if1 (b := true) ((et_or1 (c := true) (et_not1 (et_v1 (isq _ rfl))) (fun _ => (et_t1 (e_opd (EV.d1 (e_cb1 (ea_c (e_var rfl) ea_nil) (cd_lenSq ql))) e_int od_eqI)).is (by simp))).is (by simp)) (fun _ => t_ret1 e_int q) (fun e => nomatch e)
  | cons h0 ls =>
    have elen : ∀ ρ0 : List En, ρ0[2]? = some (.dat d) → ED (tCB (rLenU K) (tCons (tVar 2) tNil)) ρ0 (· = .int ((ls.length + 1 : Nat) : Int)) := fun ρ0 h => EV.d1 (e_cb1 (ea_c (e_var h) ea_nil) (cd_lenSq ql))
    refine q_if1 (b := false) ((et_or1 (et_not1 (et_v1 (isq _ rfl))) (fun _ => et_t1 (e_opd (elen _ rfl) e_int od_eqI))).is (by rw [sq_isU ql]; simp; omega)) (fun e => nomatch e) (fun _ => ?_)
    have hh := hL h0 List.mem_cons_self
    have ix0 : ∀ ρ0 : List En, ρ0[2]? = some (.dat d) → ED (tOp (rIx K) (tVar 2) (tC (.int 0))) ρ0 (· = h0) := fun ρ0 h => e_opd (e_var h) e_int (od_ixSq (j := 0) ql rfl rfl)
    have ew : ∀ (X : XK) (ρ0 : List En), ρ0[2]? = some (.dat d) → ET (tTest (tOp (rNeU K) (tCall (SpE Rg_word_of) [] X (tCons (tOp (rIx K) (tVar 2) (tC (.int 0))) tNil)) (tC (.str "row")))) ρ0 (· = !isW h0 wRow) := fun X ρ0 h => et_t1 (e_opd (e_word (ix0 ρ0 h) hh) (e_str (s := wRow) (by decide +kernel)) (od_neE (word_ok hh) rfl))
    by_cases hw : isW h0 wRow = true
    rotate_left
    · have hw' : isW h0 wRow = false := by simpa using hw
      refine q_if1 (b := true) ((et_or1 (c := true) (ew _ _ rfl) (fun e => by rw [hw'] at e; cases e)).is (by rw [hw']; rfl)) (fun _ => t_ret1 e_int ?_) (fun e => nomatch e)
      rw [lookH_none (headR_no hw')] at q
      exact q
    obtain ⟨rr, rfl, hz⟩ := isW_of hw
    obtain ⟨x, rfl⟩ := one_of (ds := rr) (by rw [sz_row] at hz; exact two_r hz)
    have hx : elOk x = true := hh.1 x (by simp)
    have ix1 : ∀ ρ0 : List En, ρ0[2]? = some (.dat d) → ED (tOp (rIx K) (tOp (rIx K) (tVar 2) (tC (.int 0))) (tC (.int 1))) ρ0 (· = x) := fun ρ0 h => e_opd (ix0 ρ0 h) e_int (od_ixT (j := 1) rfl rfl)
    refine q_if1 (b := !isRowM cs x) ((et_or1 (ew _ _ rfl) (fun _ => et_not1 (et_v1 (EV.d1 (e_call0 (R := fun e => e = .dat (.bl (isRowM cs x))) (ea_c (e_var rfl) (ea_c (ix1 _ rfl) ea_nil)) ⟨xc, cs, x, rfl, qc, c1, c2, hx, fun s e => hh.2.2 s (by rw [e]; simp), rfl⟩))))).is (by rw [hw]; rfl)) (fun e => t_ret1 e_int ?_) (fun e => ?_)
    · rw [lookH_none (show headR cs (.tup [.str wRow, x]) = none by
          cases x with
          | str r => exact if_neg (fun z => by rw [z.2] at e; cases e)
          | _ => rfl)] at q
      exact q
    have hrow : isRowM cs x = true := by simpa using e
    obtain ⟨r, rfl⟩ : ∃ r, x = .str r := by cases x <;> first | exact ⟨_, rfl⟩ | cases hrow
    have hrl : r.length = cs.length := by
      have h1 : (decide (r.length = cs.length) && rowOk cs r) = true := hrow
      rw [Bool.and_eq_true, decide_eq_true_eq] at h1
      exact h1.1
    rw [lookH_some (show headR cs (.tup [.str wRow, .str r]) = some r from if_pos ⟨rfl, hrow⟩)] at q
    have hSr : SOk r.length S := by rw [hrl]; exact hS
    have hlen := folM_len hSr.2.1 ls (List.replicate r.length 46) List.length_replicate
    generalize hf : folM S r (List.replicate r.length 46) ls = ft at q hlen
    obtain ⟨a, t⟩ := ft
    obtain ⟨htl, hal⟩ := hlen
    have htl' : t.length = r.length := htl
    have hal' : a ≤ ls.length := hal
    have hlsl : ls.length ≤ 1000 := by simp at hLl; omega
    have hlsO : ∀ l ∈ ls, LnOk l := fun l hl => hL l (List.mem_cons_of_mem _ hl)
    refine q_asg1 (ix1 _ rfl) ?_
    refine t_seq (M := fun ρ' => ρ' = [.dat xc, .dat xs, .dat d, .dat (.str r), .dat (.int (1 + (a : Int))), .dat (.str t), .un, .un, .un]) (t_unp (Q2 := fun x y => x = .int (1 + (a : Int)) ∧ y = .str t) ((EV.d1 (e_call0 (R := fun e => e = .dat (.tup [.int (1 + (a : Int)), .str t])) (ea_c (e_var rfl) (ea_c (e_var rfl) (ea_c (e_var rfl) ea_nil))) ⟨xs, d, S, r, _, ls, rfl, qs, ql, hSr, by omega, hlsO, hlsl, by rw [hf]⟩)).imp fun d e => ⟨_, _, e, rfl, rfl⟩) fun x y ⟨e1, e2⟩ => by rw [e1, e2]; rfl) fun ρ' m => ?_
    subst m
    have hwl : (waitS S t).length ≤ S.length := List.length_filter_le _ _
    have hws : SOk r.length (waitS S t) := ⟨by have := hSr.1; omega, fun s hs => hSr.2.1 s (List.mem_filter.mp hs).1, fun s hs => hSr.2.2 s (List.mem_filter.mp hs).1⟩
    refine q_asg1 (EV.o1 (e_call0 (R := fun e => e = .own ((waitS S t).map D.str)) (ea_c (e_var rfl) (ea_c (e_var rfl) ea_nil)) ⟨xs, S, t, rfl, qs, hSr.1, by rw [htl']; exact hSr.2.1, by omega, rfl⟩)) ?_
    obtain ⟨y, qy, hy⟩ := ql.from (K := K) (te := tVar 2) (ti := tVar 4) (ρ := [.dat xc, .dat xs, .dat d, .dat (.str r), .dat (.int (1 + (a : Int))), .dat (.str t), .dat (.lst ((waitS S t).map D.str)), .un, .un]) (k := a + 1) (i := 1 + (a : Int)) (by omega) (by omega) (by simp; omega) (e_var rfl) (e_var rfl)
    rw [show (D.tup [.str wRow, .str r] :: ls).drop (a + 1) = ls.drop a from rfl] at qy
    obtain ⟨b, hb⟩ : ∃ b, b = cntM cs t r (waitS S t) (ls.drop a) := ⟨_, rfl⟩
    have hbl := cnt_le cs t r (waitS S t) (ls.drop a)
    rw [← hb] at hbl
    rw [List.length_drop] at hbl
    unfold lookL at q
    rw [← hb] at q
    refine q_asg1 (d := .int (b : Int)) (EV.d1 (e_call0 (R := fun e => e = .dat (.int (b : Int))) (ea_c (e_var rfl) (ea_c (e_var rfl) (ea_c (e_var rfl) (ea_c (e_var rfl) (ea_c hy ea_nil))))) ⟨xc, y, cs, waitS S t, t, r, ls.drop a, rfl, qc, qy, hws, htl', hrl, c1, c3, fun l hl => hlsO l (List.mem_of_mem_drop hl), by rw [List.length_drop]; omega, by rw [hb]⟩)) ?_
    refine q_asg1 (e_opd (e_var rfl) (e_var rfl) od_addI) ?_
    have eat : (1 + (a : Int)) + (b : Int) = 1 + ((a + b : Nat) : Int) := by omega
    rw [eat]
    refine q_if1 (b := decide (1 + ((a + b : Nat) : Int) = ((ls.length + 1 : Nat) : Int))) (et_t1 (e_opd (e_var rfl) (elen _ rfl) od_eqI)) (fun e => t_ret1 (e_var rfl) ?_) (fun e => ?_)
    · have : a + b = ls.length := by have := of_decide_eq_true e; omega
      rw [List.getElem?_eq_none (by omega)] at q
      exact q
    have hlt : a + b < ls.length := by have := of_decide_eq_false e; omega
    have hat : ls[a + b]? = some ls[a + b] := List.getElem?_eq_getElem hlt
    rw [hat] at q
    generalize ls[a + b] = l at hat q
    have hl := hlsO l (List.mem_of_getElem? hat)
    have ixa : ∀ ρ0 : List En, ρ0[2]? = some (.dat d) → ρ0[4]? = some (.dat (.int (1 + ((a + b : Nat) : Int)))) → ED (tOp (rIx K) (tVar 2) (tVar 4)) ρ0 (· = l) := fun ρ0 h h' => e_opd (e_var h) (e_var h') (od_ixSq (j := a + b + 1) ql (by omega) (by rw [List.getElem?_cons_succ]; exact hat))
    refine t_seq (M := fun ρ' => ρ' = [.dat xc, .dat xs, .dat d, .dat (.str r), .dat (.int (1 + ((a + b : Nat) : Int))), .dat (.str t), .dat (.lst ((waitS S t).map D.str)), .dat (.int (b : Int)), .dat (.bl (endB cs S r t b l))]) (t_if (T := fun z => z = decide (t = lotOf r)) (et_eqS (e_var rfl) (EV.d1 (e_call0 (R := fun e => e = .dat (.str (lotOf r))) (ea_c (e_var rfl) ea_nil) ⟨r, rfl, by omega, rfl⟩))) (fun e => ?_) (fun e => ?_)) fun ρ' m => ?_
    · refine t_asgd (PD := fun d => d = .bl (decide ((b : Int) = 0) && isW l wMade)) (e_and (e_opd (e_var rfl) e_int od_eqI) fun _ => e_opd (e_word (ixa _ rfl rfl) hl) (e_str (s := wMade) (by decide +kernel)) (od_eqE (word_ok hl) rfl)) fun d hd' => ?_
      rw [hd', show endB cs S r t b l = (decide ((b : Int) = 0) && isW l wMade) by
        unfold endB
        rw [if_pos (of_decide_eq_true e.symm)]
        congr 1
        exact decide_eq_decide.mpr ⟨fun z => by omega, fun z => by omega⟩]
      rfl
    · refine t_asgd (PD := fun d => d = .bl (decide ((b : Int) = (((waitS S t).map D.str).length : Int)) && isW l wBarred)) (e_and (e_opd (e_var rfl) (EV.d1 (e_cb1 (ea_c (e_var rfl) ea_nil) cd_lenL)) od_eqI) fun _ => e_opd (e_word (ixa _ rfl rfl) hl) (e_str (s := wBarred) (by decide +kernel)) (od_eqE (word_ok hl) rfl)) fun d hd' => ?_
      rw [hd', show endB cs S r t b l = (decide ((b : Int) = (((waitS S t).map D.str).length : Int)) && isW l wBarred) by
        unfold endB
        rw [if_neg (of_decide_eq_false e.symm), List.length_map]
        congr 1
        exact decide_eq_decide.mpr ⟨fun z => by omega, fun z => by omega⟩]
      rfl
    subst m
    refine q_if1 (b := !endB cs S r t b l) (et_not1 (et_v1 (e_var rfl))) (fun e => t_ret1 (e_var rfl) ?_) (fun e => ?_)
    · rw [show (match some l with | none => D.int (1 + ((a + b : Nat) : Int)) | some l => if endB cs S r t b l = true then (if a + b + 1 = ls.length then D.non else D.int (1 + ((a + b : Nat) : Int) + 1)) else D.int (1 + ((a + b : Nat) : Int))) = D.int (1 + ((a + b : Nat) : Int)) from if_neg (by intro z; rw [z] at e; cases e)] at q
      exact q
    · have he : endB cs S r t b l = true := by simpa using e
      rw [show (match some l with | none => D.int (1 + ((a + b : Nat) : Int)) | some l => if endB cs S r t b l = true then (if a + b + 1 = ls.length then D.non else D.int (1 + ((a + b : Nat) : Int) + 1)) else D.int (1 + ((a + b : Nat) : Int))) = (if a + b + 1 = ls.length then D.non else D.int (1 + ((a + b : Nat) : Int) + 1)) from if_pos he] at q
      refine t_ret1 (d := if a + b + 1 = ls.length then D.non else D.int (1 + ((a + b : Nat) : Int) + 1)) (e_ifd (T := fun z => z = decide (1 + ((a + b : Nat) : Int) + 1 = ((ls.length + 1 : Nat) : Int))) (et_t1 (e_opd (e_opd (e_var rfl) e_int od_addI) (elen _ rfl) od_eqI)) (fun e => ?_) (fun e => ?_)) q
      · rw [if_pos (by have := of_decide_eq_true e.symm; omega)]; exact e_non
      · rw [if_neg (by have := of_decide_eq_false e.symm; omega)]; exact e_opd (e_var rfl) e_int od_addI

end
end Nt

namespace Nt
open PySem PySem.Spec PyProof.Rows L2

abbrev fr (t : List Nat) (s : List Nat) : Bool := decide ((0 : Int) < ((outs s t).length : Int))

def lookW (cs : List (List Nat × Nat)) (S : List (List Nat)) (r : List Nat) (k : Nat) (t : List Nat) (n : Nat) (W : List (List Nat)) (rest : List D) : D :=
  match rest[cntM cs t r W rest]? with
  | none => .int ((k + cntM cs t r W rest : Nat) : Int)
  | some l => if endB cs S r t (n + cntM cs t r W rest) l = true then (if cntM cs t r W rest + 1 = rest.length then .non else .int ((k + cntM cs t r W rest + 1 : Nat) : Int)) else .int ((k + cntM cs t r W rest : Nat) : Int)

theorem lookW_zero {cs : List (List Nat × Nat)} {S : List (List Nat)} {r t : List Nat} {k n : Nat} {W : List (List Nat)} {l : D} {rest : List D} (h : cntM cs t r W (l :: rest) = 0) : lookW cs S r k t n W (l :: rest) = if endB cs S r t n l = true then (if rest = [] then .non else .int ((k + 1 : Nat) : Int)) else .int (k : Int) := by
  unfold lookW
  rw [h]
  show (if endB cs S r t (n + 0) l = true then (if 0 + 1 = rest.length + 1 then D.non else .int ((k + 0 + 1 : Nat) : Int)) else .int ((k + 0 : Nat) : Int)) = _
  rw [Nat.add_zero, Nat.add_zero]
  cases rest with
  | nil => rfl
  | cons a b => rfl

theorem lookL_W {cs : List (List Nat × Nat)} {S : List (List Nat)} {r : List Nat} {a : Nat} {t : List Nat} {ls : List D} (h : a ≤ ls.length) : lookL cs S r a t ls = lookW cs S r (1 + a) t 0 (waitS S t) (ls.drop a) := by
  unfold lookL lookW
  rw [List.getElem?_drop]
  generalize cntM cs t r (waitS S t) (ls.drop a) = b
  have e1 : (1 : Int) + ((a + b : Nat) : Int) = ((1 + a + b : Nat) : Int) := by omega
  have e2 : ((1 + a + b : Nat) : Int) + 1 = ((1 + a + b + 1 : Nat) : Int) := by omega
  have e3 : (a + b + 1 = ls.length) = (b + 1 = (ls.drop a).length) := by
    rw [List.length_drop]
    exact propext ⟨fun z => by omega, fun z => by omega⟩
  cases ls[a + b]? with
  | none => exact congrArg D.int e1
  | some l => simp only [e1, e2, e3, Nat.zero_add]

abbrev NmV (s : List Nat) : Prop := s.length ≤ 6 ∧ ∀ c ∈ s, c < 0x110000

/-- a bar for each that waits -/
inductive BarsOf (cs : List (List Nat × Nat)) (t r : List Nat) : List (List Nat) → List D → Prop where
  | nil : BarsOf cs t r [] []
  | cons {s : List Nat} {b : D} {W : List (List Nat)} {bs : List D} : barB cs s t r b = true → BarsOf cs t r W bs → BarsOf cs t r (s :: W) (b :: bs)
theorem BarsOf.snoc {cs : List (List Nat × Nat)} {t r s : List Nat} {b : D} (h : barB cs s t r b = true) : ∀ {W : List (List Nat)} {bs : List D}, BarsOf cs t r W bs → BarsOf cs t r (W ++ [s]) (bs ++ [b])
  | _, _, .nil => .cons h .nil
  | _, _, .cons h1 h2 => .cons h1 (h2.snoc h)
theorem BarsOf.len {cs : List (List Nat × Nat)} {t r : List Nat} : ∀ {W : List (List Nat)} {bs : List D}, BarsOf cs t r W bs → W.length = bs.length
  | _, _, .nil => rfl
  | _, _, .cons _ h2 => by rw [List.length_cons, List.length_cons, h2.len]
theorem BarsOf.cnt {cs : List (List Nat × Nat)} {t r : List Nat} {rest : List D} : ∀ {W : List (List Nat)} {bs : List D}, BarsOf cs t r W bs → cntM cs t r W (bs ++ rest) = W.length
  | _, _, .nil => by cases rest <;> rfl
  | _, _, .cons h1 h2 => by
    rw [List.cons_append]
    conv => lhs; unfold cntM
    rw [if_pos h1, h2.cnt]
    rfl
theorem BarsOf.hd {cs : List (List Nat × Nat)} {S : List (List Nat)} {t r : List Nat} {W : List (List Nat)} {b : D} {bs : List D} (h : BarsOf cs t r W (b :: bs)) : takeO S r t b = none := by
  cases h with
  | cons h1 _ =>
    unfold takeO
    split
    · rename_i w' s'
      cases h1
    · rfl
theorem run_fol {S : List (List Nat)} {r : List Nat} {tk : List (List Nat)} {t : List Nat} (h : Run S r tk t) : ∀ rest, folM S r (List.replicate r.length 46) (tk.map lTake ++ rest) = (tk.length + (folM S r t rest).1, (folM S r t rest).2) := by
  induction h with
  | nil => intro rest; show folM S r (List.replicate r.length 46) rest = _; rw [List.length_nil, Nat.zero_add]
  | @snoc tk t s hr hs hc ih =>
    intro rest
    rw [List.map_append, List.append_assoc, ih]
    have e : takeO S r t (lTake s) = some s := by
      show (if wTake = wTake ∧ s ∈ S ∧ canT s t r = true then some s else none) = some s
      rw [if_pos ⟨rfl, hs, hc⟩]
    have ef : folM S r t ([s].map lTake ++ rest) = ((folM S r (ov t (lotOf s)) rest).1 + 1, (folM S r (ov t (lotOf s)) rest).2) := by
      show folM S r t (lTake s :: rest) = _
      conv => lhs; unfold folM
      rw [e]
    rw [ef, List.length_append]
    exact Prod.ext (by show tk.length + ((folM S r (ov t (lotOf s)) rest).1 + 1) = tk.length + 1 + (folM S r (ov t (lotOf s)) rest).1; omega) rfl
/-- how a paper goes on behind its takes -/
inductive PapEnd (cs : List (List Nat × Nat)) (S : List (List Nat)) (r t : List Nat) : List D → Prop where
  | made : t = lotOf r → PapEnd cs S r t [lMade]
  | barred {bs : List D} : t ≠ lotOf r → BarsOf cs t r (waitS S t) bs → PapEnd cs S r t (bs ++ [lBarred])
theorem paper_look {cs : List (List Nat × Nat)} {S : List (List Nat)} {r t : List Nat} {tk : List (List Nat)} {rest : List D} (hr : CR cs r) (h : Run S r tk t) (he : PapEnd cs S r t rest) : lookH cs S (lRow r :: (tk.map lTake ++ rest)) = .non := by
  have hh : headR cs (lRow r) = some r := by
    show (if wRow = wRow ∧ isRowM cs (.str r) = true then some r else none) = some r
    rw [if_pos ⟨rfl, show (decide (r.length = cs.length) && rowOk cs r) = true by rw [decide_eq_true hr.1, hr.2.2.2]; rfl⟩]
  rw [lookH_some hh, run_fol h]
  have hf : folM S r t rest = (0, t) := by
    cases he with
    | made e => rfl
    | @barred bs e hb =>
      cases bs with
      | nil => rfl
      | cons b bs =>
        rw [List.cons_append]
        unfold folM
        rw [hb.hd]
  rw [hf, Nat.add_zero, lookL_W (by rw [List.length_append, List.length_map]; omega)]
  have hd : (tk.map lTake ++ rest).drop tk.length = rest := by
    rw [List.drop_append_of_le_length (by rw [List.length_map]; exact Nat.le_refl _), List.drop_of_length_le (by rw [List.length_map]; exact Nat.le_refl _)]
    rfl
  rw [hd]
  cases he with
  | made e =>
    have hc : cntM cs t r (waitS S t) [lMade] = 0 := by cases waitS S t <;> rfl
    rw [lookW_zero hc]
    have : endB cs S r t 0 lMade = true := by
      unfold endB
      rw [if_pos e]
      rfl
    rw [this]
    rfl
  | @barred bs e hb =>
    have hc := hb.cnt (rest := [lBarred])
    have hl := hb.len
    unfold lookW
    rw [hc, hl, List.getElem?_append_right (Nat.le_refl _), Nat.sub_self]
    show (if endB cs S r t (0 + bs.length) lBarred = true then (if bs.length + 1 = (bs ++ [lBarred]).length then D.non else _) else _) = D.non
    have : endB cs S r t (0 + bs.length) lBarred = true := by
      unfold endB
      rw [if_neg e, Nat.zero_add, decide_eq_true hl.symm]
      rfl
    rw [if_pos this, if_pos (by rw [List.length_append]; rfl)]
/-- a text of few signs -/
def Tx (s : List Nat) : Prop := D.ok (.str s) = true ∧ s.length ≤ 1000
theorem Tx.el {s : List Nat} (h : Tx s) : elOk (.str s) = true := h.1
/-- a line as it is drawn -/
def LineOk (d : D) : Prop := LnOk d ∧ D.sm 4 d = true
theorem rowV_tx {cs : List (List Nat × Nat)} {r : List Nat} (hc : CsV cs) (h : RowV cs r) : Tx r := by
  have h1 := h.1
  have h2 := hc.1
  refine ⟨strs_ok fun c hm => ?_, by omega⟩
  obtain ⟨i, hi⟩ := List.mem_iff_getElem?.mp hm
  have hil := (List.getElem?_eq_some_iff.mp hi).1
  have hm2 : cs[i]? = some cs[i] := List.getElem?_eq_getElem (by omega)
  have h3 := hc.2 _ (List.getElem_mem (l := cs) (n := i) (by omega))
  rcases h.2 i c _ hi hm2 with z | ⟨_, z⟩ <;> omega
theorem line_of {ds : List D} (h1 : ∀ d ∈ ds, elOk d = true) (h2 : ds.length ≤ 3) (h3 : ∀ s, D.str s ∈ ds → s.length ≤ 1000) (h4 : ∀ d ∈ ds, D.sm 3 d = true) : LineOk (.tup ds) := by
  refine ⟨⟨h1, by omega, h3⟩, ?_⟩
  show (ds.all (D.sm 3) && decide (ds.length ≤ 100000)) = true
  rw [decide_eq_true (by omega), Bool.and_true]
  exact List.all_eq_true.mpr h4
/-- texts in a line -/
theorem line_tx {ss : List (List Nat)} (h : ∀ s ∈ ss, Tx s) (h2 : ss.length ≤ 3) : LineOk (.tup (ss.map D.str)) := by
  refine line_of (fun d hd => ?_) (by rw [List.length_map]; exact h2) (fun s hs => ?_) (fun d hd => ?_)
  · obtain ⟨s, hs, rfl⟩ := List.mem_map.mp hd
    exact (h s hs).1
  · obtain ⟨z, hz, e⟩ := List.mem_map.mp hs
    cases e
    exact (h _ hz).2
  · obtain ⟨s, hs, rfl⟩ := List.mem_map.mp hd
    rfl
theorem tx_take : Tx wTake := ⟨rfl, by decide⟩
theorem tx_row : Tx wRow := ⟨rfl, by decide⟩
theorem tx_made : Tx wMade := ⟨rfl, by decide⟩
theorem tx_bar : Tx wBar := ⟨rfl, by decide⟩
theorem tx_barred : Tx wBarred := ⟨rfl, by decide⟩
theorem ln_row {r : List Nat} (h : Tx r) : LineOk (lRow r) := line_tx (ss := [wRow, r]) (fun s hs => by
  simp only [List.mem_cons, List.not_mem_nil, or_false] at hs
  rcases hs with z | z <;> rw [z] <;> first | exact tx_row | exact h) (by simp)
theorem ln_take {r : List Nat} (h : Tx r) : LineOk (lTake r) := line_tx (ss := [wTake, r]) (fun s hs => by
  simp only [List.mem_cons, List.not_mem_nil, or_false] at hs
  rcases hs with z | z <;> rw [z] <;> first | exact tx_take | exact h) (by simp)
theorem ln_made : LineOk lMade := line_tx (ss := [wMade]) (fun s hs => by rw [List.mem_singleton.mp hs]; exact tx_made) (by simp)
theorem ln_barred : LineOk lBarred := line_tx (ss := [wBarred]) (fun s hs => by rw [List.mem_singleton.mp hs]; exact tx_barred) (by simp)
def lBar (s n : List Nat) : D := .tup [.str wBar, .str s, .str n]
theorem ln_bar {s n : List Nat} (h : Tx s) (h2 : Tx n) : LineOk (lBar s n) := line_tx (ss := [wBar, s, n]) (fun z hz => by
  simp only [List.mem_cons, List.not_mem_nil, or_false] at hz
  rcases hz with e | e | e <;> rw [e] <;> first | exact tx_bar | exact h | exact h2) (by simp)
theorem barB_lBar {cs : List (List Nat × Nat)} {s t r : List Nat} {i : Nat} (hi : i ∈ bars s t r) : barB cs s t r (lBar s (cs.getD i ([], 0)).1) = true := by
  show (decide (wBar = wBar) && decide (s = s) && decide ((cs.getD i ([], 0)).1 ∈ namesM cs s t r)) = true
  have hm : (cs.getD i ([], 0)).1 ∈ namesM cs s t r := List.mem_map.mpr ⟨i, hi, rfl⟩
  rw [decide_eq_true rfl, decide_eq_true rfl, decide_eq_true hm]
  rfl
theorem wait_bar {S : List (List Nat)} {r t : List Nat} {s : List Nat} (hf : Fin S r t) (hs : s ∈ waitS S t) : bars s t r ≠ [] := fun e => by
  obtain ⟨h1, h2⟩ := List.mem_filter.mp hs
  have := hf s h1
  unfold canT at this
  rw [h2, e] at this
  cases this
theorem wait_none {S : List (List Nat)} {r t s : List Nat} (hf : Fin S r t) (hs : s ∈ S) : (bars s t r = [] ↔ fr t s = false) := by
  constructor
  · intro e
    cases h : fr t s with
    | false => rfl
    | true => exact absurd e (wait_bar hf (List.mem_filter.mpr ⟨hs, h⟩))
  · intro h
    unfold bars
    have : outs s t = [] := List.eq_nil_of_length_eq_zero (by have := of_decide_eq_false h; omega)
    rw [this]
    rfl
/-- what come tells, looked at -/
theorem come_good {cs : List (List Nat × Nat)} {S : List (List Nat)} {r t : List Nat} {tk : List (List Nat)} (hc : CR cs r) (h : Run S r tk t) (hf : Fin S r t) : lookH cs S (linesD cs S r tk t) = .non := by
  unfold linesD
  by_cases e : t = lotOf r
  · rw [if_pos e]
    exact paper_look hc h (.made e)
  · rw [if_neg e, List.append_assoc]
    refine paper_look hc h (.barred e ?_)
    have key : ∀ W : List (List Nat), (∀ s ∈ W, s ∈ waitS S t) → BarsOf cs t r W (W.map (barOf cs r t)) := fun W => by
      induction W with
      | nil => intro _; exact .nil
      | cons s W ih =>
        intro hw
        refine .cons ?_ (ih fun s hs => hw s (List.mem_cons_of_mem _ hs))
        have hb := wait_bar hf (hw s List.mem_cons_self)
        cases hbb : bars s t r with
        | nil => exact absurd hbb hb
        | cons i l =>
          have e1 : barOf cs r t s = lBar s (cs.getD i ([], 0)).1 := by
            unfold barOf
            rw [hbb]
            rfl
          rw [e1]
          exact barB_lBar (by rw [hbb]; exact List.mem_cons_self)
    exact key _ fun s hs => hs
theorem come_lines {cs : List (List Nat × Nat)} {S : List (List Nat)} {r t : List Nat} {tk : List (List Nat)} (hv : CsV cs) (hn : ∀ c ∈ cs, NmV c.1) (hr : RowV cs r) (hS : ∀ s ∈ S, RowV cs s) (h : Run S r tk t) (hf : Fin S r t) : (∀ l ∈ linesD cs S r tk t, LineOk l) ∧ (linesD cs S r tk t).length ≤ 2 + tk.length + S.length := by
  have htk : ∀ l ∈ tk.map lTake, LineOk l := fun l hl => by
    obtain ⟨s, hs, rfl⟩ := List.mem_map.mp hl
    exact ln_take (rowV_tx hv (hS s (run_mem h s hs)))
  have hwl : (waitS S t).length ≤ S.length := List.length_filter_le _ _
  unfold linesD
  split
  · refine ⟨fun l hl => ?_, by simp; omega⟩
    rw [List.cons_append, List.mem_cons, List.mem_append, List.mem_singleton] at hl
    rcases hl with z | z | z
    · rw [z]; exact ln_row (rowV_tx hv hr)
    · exact htk l z
    · rw [z]; exact ln_made
  · refine ⟨fun l hl => ?_, by simp; omega⟩
    rw [List.append_assoc, List.cons_append, List.mem_cons, List.mem_append, List.mem_append, List.mem_singleton] at hl
    rcases hl with z | z | z | z
    · rw [z]; exact ln_row (rowV_tx hv hr)
    · exact htk l z
    · obtain ⟨s, hs, rfl⟩ := List.mem_map.mp z
      have hsS := (List.mem_filter.mp hs).1
      refine ln_bar (rowV_tx hv (hS s hsS)) ?_
      cases hbb : bars s t r with
      | nil => exact absurd hbb (wait_bar hf hs)
      | cons i l0 =>
        have hi : i ∈ bars s t r := by rw [hbb]; exact List.mem_cons_self
        unfold bars at hi
        have hil := outs_lt (List.mem_filter.mp hi).1
        have hsl := (hS s hsS).1
        rw [List.headD_cons, List.getD_eq_getElem?_getD, List.getElem?_eq_getElem (show i < cs.length by omega)]
        have := hn _ (List.getElem_mem (l := cs) (n := i) (by omega))
        exact ⟨strs_ok this.2, by have := this.1; show _ ≤ 1000; exact Nat.le_trans ‹_› (by decide)⟩
    · rw [z]; exact ln_barred

end Nt


namespace Nt
open PySem PySem.Spec PyProof.Rows L2


def paperD (cs : List (List Nat × Nat)) (S : List (List Nat)) (r : List Nat) : List D := linesD cs S r (grd S r).1 (grd S r).2
def firstD (cs : List (List Nat × Nat)) (R S : List (List Nat)) : D := match R.find? (fun r => !madeB S r) with
  | some r => .tup [.str r, .lst (paperD cs S r)]
  | none => .non
def dueD (cs : List (List Nat × Nat)) (X Y : List (List Nat)) : D := match X.find? (fun r => !madeB Y r) with
  | some r => .tup [.int 0, .str r, .lst (paperD cs Y r)]
  | none => match Y.find? (fun r => !madeB X r) with
    | some r => .tup [.int 1, .str r, .lst (paperD cs X r)]
    | none => .non
/-- rows for the cells -/
def AllR (cs : List (List Nat × Nat)) (X : List (List Nat)) : Prop := (∀ r ∈ X, CR cs r) ∧ X.length ≤ 100
def Frm (cs : List (List Nat × Nat)) : Prop := cs.length ≤ 20 ∧ ∀ c ∈ cs, c.2 ≤ 4
theorem AllR.len {cs : List (List Nat × Nat)} {X : List (List Nat)} (h : AllR cs X) : Len cs.length X := fun r hr => (h.1 r hr).1
def Rg_first_not_made (ds : List D) (P : En → Prop) : Prop := ∃ (xc xr xs : D) (cs : List (List Nat × Nat)) (R S : List (List Nat)), ds = [xc, xr, xs] ∧ Sq xc (cs.map cellD) ∧ Sq xr (R.map D.str) ∧ Sq xs (S.map D.str) ∧ Frm cs ∧ AllR cs R ∧ AllR cs S ∧ P (.dat (firstD cs R S))
def Rg_first_difference (ds : List D) (P : En → Prop) : Prop := ∃ (xc xr xs : D) (cs : List (List Nat × Nat)) (R S : List (List Nat)), ds = [xc, xr, xs] ∧ Sq xc (cs.map cellD) ∧ Sq xr (R.map D.str) ∧ Sq xs (S.map D.str) ∧ Frm cs ∧ AllR cs R ∧ AllR cs S ∧ P (.dat (dueD cs R S))
def Rg_law_rows (ds : List D) (P : En → Prop) : Prop := ∃ (S : List (List Nat)) (n : Nat), ds = [.lst (S.map D.str), .int (n : Nat), .int 40] ∧ S.length ≤ 100 ∧ Len n S ∧ n ≤ 20 ∧
  (∀ F : List (List Nat), F.Nodup → (∀ z ∈ F, Clo S n z) → 40 < F.length → P (.dat .non)) ∧ (∀ M, IsRows M S n → M.length ≤ 40 → P (.own (M.map D.str)))
def Rg_law_greedy (ds : List D) (P : En → Prop) : Prop := ∃ (S : List (List Nat)) (r : List Nat), ds = [.lst (S.map D.str), .str r] ∧ S.length ≤ 1000 ∧ Len r.length S ∧ r.length ≤ 1000 ∧ P (.dat (.tup [.lst ((grd S r).1.map D.str), .str (grd S r).2]))
def Rg_law_lines (ds : List D) (P : En → Prop) : Prop := ∃ (cs : List (List Nat × Nat)) (S : List (List Nat)) (r : List Nat), ds = [.lst (cs.map cellD), .lst (S.map D.str), .str r] ∧ S.length ≤ 1000 ∧ Len r.length S ∧ r.length = cs.length ∧ cs.length ≤ 20 ∧ P (.own (paperD cs S r))
def Rg_law_due (ds : List D) (P : En → Prop) : Prop := ∃ (cs : List (List Nat × Nat)) (X Y : List (List Nat)), ds = [.lst (cs.map cellD), .lst (X.map D.str), .lst (Y.map D.str)] ∧ Frm cs ∧ AllR cs X ∧ AllR cs Y ∧ Small X cs.length ∧ Small Y cs.length ∧ P (.dat (dueD cs X Y))
theorem len_first_not_made (ds P) (h : Rg_first_not_made ds P) : ds.length = 3 := by obtain ⟨_, _, _, _, _, _, rfl, _⟩ := h; rfl
theorem len_first_difference (ds P) (h : Rg_first_difference ds P) : ds.length = 3 := by obtain ⟨_, _, _, _, _, _, rfl, _⟩ := h; rfl
theorem len_law_rows (ds P) (h : Rg_law_rows ds P) : ds.length = 3 := by obtain ⟨_, _, rfl, _⟩ := h; rfl
theorem len_law_greedy (ds P) (h : Rg_law_greedy ds P) : ds.length = 2 := by obtain ⟨_, _, rfl, _⟩ := h; rfl
theorem len_law_lines (ds P) (h : Rg_law_lines ds P) : ds.length = 3 := by obtain ⟨_, _, _, rfl, _⟩ := h; rfl
theorem len_law_due (ds P) (h : Rg_law_due ds P) : ds.length = 3 := by obtain ⟨_, _, _, rfl, _⟩ := h; rfl
theorem find_at {α : Type} {p : α → Bool} {l : List α} {i : Nat} {x : α} (h : l[i]? = some x) (hp : p x = true) (hn : ∀ y ∈ l.take i, p y = false) : l.find? p = some x := by
  rw [List.find?_eq_some_iff_getElem]
  obtain ⟨hl, hg⟩ := List.getElem?_eq_some_iff.mp h
  refine ⟨hp, i, hl, hg, fun j hj => ?_⟩
  have : l[j] ∈ l.take i := by rw [List.mem_iff_getElem?]; exact ⟨j, by rw [List.getElem?_take_of_lt hj]; exact List.getElem?_eq_getElem _⟩
  rw [hn _ this]; rfl
theorem find_no {α : Type} {p : α → Bool} {l : List α} (hn : ∀ y ∈ l, p y = false) : l.find? p = none := by
  rw [List.find?_eq_none]
  intro y hy
  rw [hn y hy]; simp
theorem made_of {S : List (List Nat)} {r t : List Nat} {tk : List (List Nat)} (hS : Len r.length S) (h : FRun S r tk t) (f : Fin S r t) : decide (t = lotOf r) = madeB S r := by
  have e := congrArg Prod.snd (grd_uniq hS h f)
  unfold madeB
  rw [← e]
theorem lines_of {cs : List (List Nat × Nat)} {S : List (List Nat)} {r t : List Nat} {tk : List (List Nat)} (hS : Len r.length S) (h : FRun S r tk t) (f : Fin S r t) : linesD cs S r tk t = paperD cs S r := by
  have e := grd_uniq hS h f
  unfold paperD
  rw [← e]
theorem frs_eq {s t : List Nat} : frs s t = outs s t := by
  unfold frs outs
  have h1 : ((List.range s.length).zip s).filter (outP t) = ((List.range s.length).zip s).filter ((fun k => !decide (s.getD k 0 = 46) && decide (t.getD k 0 = 46)) ∘ Prod.fst) := by
    apply List.filter_congr
    intro p hp
    rw [mem_zipr] at hp
    show (!decide (p.2 = 46) && decide (t.getD p.1 0 = 46)) = (!decide (s.getD p.1 0 = 46) && decide (t.getD p.1 0 = 46))
    rw [getD_of hp]
  rw [h1, ← List.filter_map, List.map_fst_zip (Nat.le_of_eq List.length_range)]
theorem wait_take {S : List (List Nat)} {t s : List Nat} {i : Nat} (h : S[i]? = some s) : waitS (S.take (i + 1)) t = if (0 : Int) < ((outs s t).length : Int) then waitS (S.take i) t ++ [s] else waitS (S.take i) t := by
  unfold waitS
  rw [take_step h, List.filter_append]
  by_cases q : (0 : Int) < ((outs s t).length : Int)
  · rw [if_pos q, List.filter_cons_of_pos (by rw [decide_eq_true q]), List.filter_nil]
  · rw [if_neg q, List.filter_cons_of_neg (by rw [decide_eq_false q]; exact Bool.false_ne_true), List.filter_nil, List.append_nil]
/-- the rows while they are gathered -/
structure Gath (S : List (List Nat)) (n i : Nat) (F : List (List Nat)) : Prop where
  nd : F.Nodup
  clo : ∀ z ∈ F, Clo S n z
  fst : F[0]? = some (List.replicate n 46)
  done : ∀ j, j < i → ∀ z, F[j]? = some z → ∀ s ∈ S, ov s z ∈ F
theorem gath_rows {S : List (List Nat)} {n : Nat} {F : List (List Nat)} (h : Gath S n 40 F) (hl : F.length ≤ 40) (z : List Nat) : z ∈ F ↔ Clo S n z := by
  refine ⟨h.clo z, fun c => ?_⟩
  induction c with
  | blank => exact List.mem_of_getElem? h.fst
  | @step s r hs _ ih =>
    obtain ⟨j, hj⟩ := List.mem_iff_getElem?.mp ih
    have := (List.getElem?_eq_some_iff.mp hj).1
    exact h.done j (by omega) r hj s hs
section
variable {P : Program} {w : World} {K : PySem.W.Frag} {mg : Str → Option Value} {base : Heap}


theorem ok_law_rows (T : Txt K mg) (G_law_lay : FnOk P w K mg base CX0 1 T.a_law_lay T.d_law_lay ["_law_newer_row", "_law_older_row"] (SpE Rg_law_lay)) : FnOk P w K mg base CX0 2 T.a_law_rows T.d_law_rows ["_law_stack_here", "_law_wide", "_law_cap"] (SpE Rg_law_rows) := by
  refine T.F_law_rows.ok sc_law_rows (fun vs H Q E h => spE_len h len_law_rows) (fun cdv A outer s H vs Q E hr h => ?_)
  have hu := hu64 hr
  have hvl : vs.length = 3 := spE_len h len_law_rows
  refine ⟨_, (pss_cons (ps_set (i := 3) sc_law_rows.nd rfl (Or.inr rfl) (pe_lst (pa_cons (pe_op op_times pe_str (pv 1)) pa_nil))) (pss_cons (ps_set (i := 4) sc_law_rows.nd rfl (Or.inl rfl) (pe_disp (pps_cons (pe_ix (ix_K (K := K) rfl) (pv 3) pe_int (fun _ _ => rfl)) pe_bl pps_nil) rfl rfl (by simp) (by decide))) (pss_cons (ps_for PassesOwn.never rfl (pi_range1 (by rfl) T.n_range (pa_cons (pv 2) pa_nil)) (pg_name (i := 5) sc_law_rows.nd rfl (Or.inr rfl)) (pss_cons (ps_if (pt_cmpR op_lt (pv 5) (pe_callB (call_lenK (K := K) rfl) (by rfl) T.n_len (by decide +kernel) (pa_cons (pv 3) pa_nil)) (nomark _)) (pss_one (ps_for PassesOwn.never rfl (pi_listK (K := K) rfl (pe_lc (own := [("_law_s", 7)]) (g := gName 7) (tt := tYes) rfl sc_law_rows.nd (pi_listK (K := K) rfl (pv 0)) (blkOk_by (N := N_law_rows) (sc := defScope s_law_rows) (by decide +kernel)) (fun _ _ _ _ _ => (pg_name (i := 7) sc_law_rows.nd rfl (Or.inl rfl))) (fun _ _ _ _ _ => pts_nil) (fun _ _ _ _ _ => (pe_call G_law_lay (hr.mono (by decide)) (by rfl) T.g_law_lay T.F_law_lay.kp (b_law_lay T) .nil pass0 (pa_cons (pv 7) (pa_cons (pe_ix (ix_K (K := K) rfl) (pv 3) (pv 5) (fun _ _ => rfl)) pa_nil)))))) (pg_name (i := 6) sc_law_rows.nd rfl (Or.inl rfl)) (pss_one (ps_if (pt_cmp (pc_dnotin (hu1 hu) (pv 6) (pv 4)) (by rfl)) (pss_cons (ps_dput (hu1 hu) (pv 4) (pv 6) pe_bl rfl) (pss_one (ps_expr (pe_bm PySem.F.plainAttrs_list PySem.F.slot_list_append PySem.F.type_list_append mt_append (pv 3) (pa_cons (pv 6) pa_nil))))) pss_nil)))) pss_nil) (pss_one (ps_if (pt_cmpR op_gt (pe_callB (call_lenK (K := K) rfl) (by rfl) T.n_len (by decide +kernel) (pa_cons (pv 3) pa_nil)) (pv 2) (nomark _)) (pss_one (ps_ret pe_non)) pss_nil)))) (pss_one (ps_ret (pe_callB (op_sortK (K := K) rfl) (by rfl) T.n_sorted (by decide +kernel) (pa_cons (pv 3) pa_nil))))))), fn_body h (by rw [hvl]; decide) (fun ds R hR hl => ?_)⟩
  obtain ⟨S, n, rfl, hS, hln, hn, q1, q2⟩ := hR
  refine q_asgo (ds := [List.replicate n 46].map D.str) (e_lst1 (ea_c ((e_opd (e_str (s := [46]) (by decide +kernel)) (e_var rfl) (od_mulS (by omega) (by omega) (by decide))).is (y := .str (List.replicate n 46)) (by rw [Int.toNat_natCast, rep46])) ea_nil) (by simp)) ?_
  refine q_asg (P := fun e => e = .dct ([List.replicate n 46].map fun z => (tk z, D.bl true))) (e_disp1 (e_lend (i := 3) (ds := [List.replicate n 46].map D.str) rfl (e_opd (e_var rfl) e_int (od_ixL (j := 0) rfl rfl)) fun d h => by rw [h]; rfl) e_bl) fun e he => ?_
  subst he
  refine t_seq (M := fun ρ' => ∃ F x5 x6, ρ' = [.dat (.lst (S.map D.str)), .dat (.int (n : Nat)), .dat (.int 40), .own (F.map D.str), .dct (F.map fun z => (tk z, D.bl true)), x5, x6, .un] ∧ Gath S n 40 F ∧ F.length ≤ 40) (t_for1 (iv_rngN (n := 40) (ea_c (e_var rfl) ea_nil) (by omega)) (fun ds i ρ' => ∃ F x5 x6, ρ' = [.dat (.lst (S.map D.str)), .dat (.int (n : Nat)), .dat (.int 40), .own (F.map D.str), .dct (F.map fun z => (tk z, D.bl true)), x5, x6, .un] ∧ Gath S n i F ∧ F.length ≤ 40) (fun ds e => ⟨[List.replicate n 46], .un, .un, rfl, ⟨by simp, fun z hz => by rw [List.mem_singleton.mp hz]; exact .blank, rfl, fun j hj => by omega⟩, by simp⟩) (fun ds i d ρ' e hd inv => ?_) (fun ds ρ' e inv => ?_)) fun ρ' m => ?_
  · subst e
    obtain ⟨F, x5, x6, rfl, hG, hl⟩ := inv
    obtain ⟨k, hk, rfl⟩ := map_get hd
    have hik := (List.getElem?_eq_some_iff.mp hk).1
    rw [List.length_range] at hik
    rw [List.getElem?_range hik] at hk
    obtain rfl := Option.some.inj hk
    refine t_seq (M := fun ρ' => ∃ F x6, ρ' = [.dat (.lst (S.map D.str)), .dat (.int (n : Nat)), .dat (.int 40), .own (F.map D.str), .dct (F.map fun z => (tk z, D.bl true)), .dat (.int (i : Nat)), x6, .un] ∧ Gath S n (i + 1) F ∧ F.length ≤ 140) (t_if (T := fun b => b = decide ((i : Int) < ((F.map D.str).length : Nat))) (et_lend (i := 3) (ds := F.map D.str) rfl (et_t1 (e_opd (e_var rfl) (EV.d1 (e_cb1 (ea_c (e_var rfl) ea_nil) cd_lenL)) od_lt))) (fun e => ?_) (fun e => ?_)) fun ρ' m => ?_
    · have hlt : i < F.length := by
        have := of_decide_eq_true e.symm
        rw [List.length_map] at this
        omega
      have hf : F[i]? = some F[i] := List.getElem?_eq_getElem hlt
      have hfl : F[i].length = n := clo_len hln (hG.clo _ (List.getElem_mem hlt))
      refine t_for1 (Ti := fun ds => ds = (S.map fun s => ov s F[i]).map D.str) (iv_list1 (EV.o1 ((lc1_map (ds := S) (emb := D.str) (f := fun s => D.str (ov s F[i])) (iv_list1 (e_var rfl)) (by omega) fun j s hs => ?_).imp (R' := fun e => e = .own ((S.map fun s => ov s F[i]).map D.str)) fun e he => by rw [he, List.map_map]; rfl))) (fun ds j ρ' => ∃ (G : List (List Nat)) (x6 : En), ρ' = [.dat (.lst (S.map D.str)), .dat (.int (n : Nat)), .dat (.int 40), .own ((F ++ G).map D.str), .dct ((F ++ G).map fun z => (tk z, D.bl true)), .dat (.int (i : Nat)), x6, .un] ∧ (F ++ G).Nodup ∧ (∀ z ∈ F ++ G, Clo S n z) ∧ G.length ≤ j ∧ ∀ s ∈ S.take j, ov s F[i] ∈ F ++ G) (fun ds e => ⟨[], x6, by rw [List.append_nil]; rfl, by rw [List.append_nil]; exact hG.nd, fun z hz => hG.clo z (by rw [List.append_nil] at hz; exact hz), Nat.le_refl _, by simp⟩) (fun ds j d ρ' e hd inv => ?_) (fun ds ρ' e inv => ?_)
      · have hsl := hln s (List.mem_of_getElem? hs)
        exact EV.d1 (e_call0 (Rg := Rg_law_lay) (R := fun e => e = .dat (.str (ov s F[i]))) (ea_c (e_var rfl) (ea_c (e_lend (i := 3) (ds := F.map D.str) rfl (e_opd (e_var rfl) (e_var rfl) (od_ixL (j := i) rfl (by rw [List.getElem?_map, hf]; rfl))) fun d h => by rw [h]; rfl) ea_nil)) ⟨s, F[i], rfl, by omega, rfl⟩)
      · subst e
        obtain ⟨G, x6, rfl, nd, hc, hgl, hdn⟩ := inv
        obtain ⟨z, hz, rfl⟩ := map_get hd
        obtain ⟨s, hs, rfl⟩ := map_get' hz
        have hsS := List.mem_of_getElem? hs
        have hjl := (List.getElem?_eq_some_iff.mp hs).1
        refine t_if (T := fun b => b = !decide (ov s F[i] ∈ F ++ G)) ((et_dnotin (i := 4) rfl (e_var rfl)).is (congrArg (fun b => !b) (decide_eq_decide.mpr (mem_tk (s := ov s F[i]) (F := F ++ G) (f := fun _ => D.bl true))))) (fun e => ?_) (fun e => ?_)
        · have hnm : ¬ ov s F[i] ∈ F ++ G := by simpa using e.symm
          refine t_seq (M := fun ρ' => ρ' = [.dat (.lst (S.map D.str)), .dat (.int (n : Nat)), .dat (.int 40), .own ((F ++ G).map D.str), .dct (((F ++ G) ++ [ov s F[i]]).map fun z => (tk z, D.bl true)), .dat (.int (i : Nat)), .dat (.str (ov s F[i])), .un]) (t_dput (i := 4) rfl e_bl (e_var rfl) (by rw [mem_tk]; exact hnm) (by rw [List.length_map, List.length_append]; omega) (by rw [List.map_append (l₂ := [ov s F[i]])]; rfl)) fun ρ' m => ?_
          subst m
          refine t_app (PD := fun d => d = .str (ov s F[i])) (ds := (F ++ G).map D.str) rfl (e_var rfl) (by rw [List.length_map, List.length_append]; omega) fun d hd => ⟨G ++ [ov s F[i]], .dat (.str (ov s F[i])), ?_, ?_, fun z hz => ?_, by rw [List.length_append]; simp; omega, fun x hx => ?_⟩
          · rw [hd, ← List.append_assoc, List.map_append (f := D.str) (l₁ := F ++ G)]; rfl
          · rw [← List.append_assoc, List.nodup_append]
            exact ⟨nd, by simp, fun a ha b hb hab => hnm (by rw [← List.mem_singleton.mp hb, ← hab]; exact ha)⟩
          · rw [← List.append_assoc, List.mem_append] at hz
            rcases hz with h | h
            · exact hc z h
            · rw [List.mem_singleton.mp h]; exact .step hsS (hG.clo _ (List.getElem_mem hlt))
          · rw [← List.append_assoc, List.mem_append]
            rw [take_step hs, List.mem_append] at hx
            rcases hx with h | h
            · exact .inl (hdn x h)
            · rw [List.mem_singleton.mp h]; exact .inr List.mem_cons_self
        · have hm : ov s F[i] ∈ F ++ G := by
            cases hq : decide (ov s F[i] ∈ F ++ G) with
            | true => exact of_decide_eq_true hq
            | false => rw [hq] at e; cases e
          refine t_next ⟨G, .dat (.str (ov s F[i])), rfl, nd, hc, by omega, fun x hx => ?_⟩
          rw [take_step hs, List.mem_append] at hx
          rcases hx with h | h
          · exact hdn x h
          · rw [List.mem_singleton.mp h]; exact hm
      · obtain ⟨G, x6, rfl, nd, hc, hgl, hdn⟩ := inv
        rw [e, List.length_map, List.length_map] at hgl hdn
        rw [List.take_length] at hdn
        have hF0 : 0 < F.length := by omega
        refine ⟨F ++ G, x6, rfl, ⟨nd, hc, by rw [List.getElem?_append_left hF0]; exact hG.fst, fun j hj z hz s hs => ?_⟩, by rw [List.length_append]; omega⟩
        rcases Nat.lt_or_ge j i with h | h
        · rw [List.getElem?_append_left (by omega)] at hz
          exact List.mem_append_left _ (hG.done j h z hz s hs)
        · have ej : j = i := by omega
          subst ej
          rw [List.getElem?_append_left hlt, hf] at hz
          rw [← Option.some.inj hz]
          exact hdn s hs
    · have hge : F.length ≤ i := by
        have := of_decide_eq_false e.symm
        rw [List.length_map] at this
        omega
      refine t_next ⟨F, x6, rfl, ⟨hG.nd, hG.clo, hG.fst, fun j hj z hz s hs => ?_⟩, by omega⟩
      have := (List.getElem?_eq_some_iff.mp hz).1
      exact hG.done j (by omega) z hz s hs
    · obtain ⟨F', x6, rfl, hG', hl'⟩ := m
      refine t_if (T := fun b => b = decide ((40 : Int) < ((F'.map D.str).length : Nat))) (et_lend (i := 3) (ds := F'.map D.str) rfl (et_t1 (e_opd (EV.d1 (e_cb1 (ea_c (e_var rfl) ea_nil) cd_lenL)) (e_var rfl) od_gt))) (fun e => ?_) (fun e => ?_)
      · have h40 := of_decide_eq_true e.symm
        rw [List.length_map] at h40
        exact t_ret1 e_non (q1 F' hG'.nd hG'.clo (by omega))
      · have h40 := of_decide_eq_false e.symm
        rw [List.length_map] at h40
        exact t_next ⟨F', _, x6, rfl, hG', by omega⟩
  · obtain ⟨F, x5, x6, a, b, c⟩ := inv
    rw [e, List.length_map, List.length_range] at b
    exact ⟨F, x5, x6, a, b, c⟩
  · obtain ⟨F, x5, x6, rfl, hG, hl⟩ := m
    refine t_freeze (i := 3) (ds := F.map D.str) rfl ?_
    refine t_ret (e_cb1 (ea_c (e_var rfl) ea_nil) (cd_sortS (by omega) hG.nd)) fun e ⟨M, e1, hp, hs⟩ => ?_
    rw [e1]
    exact q2 M ⟨fun z => hp.mem_iff.trans (gath_rows hG hl z), hs⟩ (by rw [hp.length_eq]; exact hl)

theorem ok_law_greedy (T : Txt K mg) (G_law_lot : FnOk P w K mg base CX0 1 T.a_law_lot T.d_law_lot ["_law_r"] (SpE Rg_law_lot)) (G_law_join : FnOk P w K mg base CX0 1 T.a_law_join T.d_law_join ["_law_x", "_law_y"] (SpE Rg_law_join)) (G_law_fits : FnOk P w K mg base CX0 2 T.a_law_fits T.d_law_fits ["_law_s", "_law_r", "_law_told"] (SpE Rg_law_fits)) : FnOk P w K mg base CX0 3 T.a_law_greedy T.d_law_greedy ["_law_stack_here", "_law_r"] (SpE Rg_law_greedy) := by
  refine T.F_law_greedy.ok sc_law_greedy (fun vs H Q E h => spE_len h len_law_greedy) (fun cdv A outer s H vs Q E hr h => ?_)
  have hu := hu64 hr
  have hvl : vs.length = 2 := spE_len h len_law_greedy
  refine ⟨_, (pss_cons (ps_asg (pe_tup (pa_cons (pe_lst pa_nil) (pa_cons (pe_op op_times pe_str (pe_callB (call_lenK (K := K) rfl) (by rfl) T.n_len (by decide +kernel) (pa_cons (pv 1) pa_nil))) pa_nil))) (pg_tup rfl (pgs_cons (pg_name (i := 2) sc_law_greedy.nd rfl (Or.inl rfl)) (pgs_cons (pg_name (i := 3) sc_law_greedy.nd rfl (Or.inr rfl)) pgs_nil)))) (pss_cons (ps_for PassesOwn.never rfl (pi_range1 (by rfl) T.n_range (pa_cons (pe_callB (call_lenK (K := K) rfl) (by rfl) T.n_len (by decide +kernel) (pa_cons (pv 1) pa_nil)) pa_nil)) (pg_name (i := 4) sc_law_greedy.nd rfl (Or.inl rfl)) (pss_cons (ps_setLc (i := 5) (own := [("_law_s", 6)]) (g := gName 6) (tt := _) rfl sc_law_greedy.nd rfl rfl (sw_true rfl rfl rfl (by decide +kernel)) (pi_listK (K := K) rfl (pv 0)) (blkOk_by (N := N_law_greedy) (sc := defScope s_law_greedy) (by decide +kernel)) (fun _ _ _ _ _ => (pg_name (i := 6) sc_law_greedy.nd rfl (Or.inl rfl))) (fun _ _ _ _ _ => (pts_one (pt_val (pe_call G_law_fits (hr.mono (by decide)) (by rfl) T.g_law_fits T.F_law_fits.kp (b_law_fits T) .nil pass0 (pa_cons (pv 6) (pa_cons (pv 1) (pa_cons (pv 3) pa_nil))))))) (fun _ _ _ _ _ => (pv 6))) (pss_one (ps_if (pt_truK (K := K) rfl (pv 5)) (pss_cons (ps_expr (pe_bm PySem.F.plainAttrs_list PySem.F.slot_list_append PySem.F.type_list_append mt_append (pv 2) (pa_cons (pe_ix (ix_K (K := K) rfl) (pv 5) pe_int (fun _ _ => rfl)) pa_nil))) (pss_one (ps_set (i := 3) sc_law_greedy.nd rfl (Or.inr rfl) (pe_call G_law_join (hr.mono (by decide)) (by rfl) T.g_law_join T.F_law_join.kp (b_law_join T) .nil pass0 (pa_cons (pv 3) (pa_cons (pe_call G_law_lot (hr.mono (by decide)) (by rfl) T.g_law_lot T.F_law_lot.kp (b_law_lot T) .nil pass0 (pa_cons (pe_ix (ix_K (K := K) rfl) (pv 5) pe_int (fun _ _ => rfl)) pa_nil)) pa_nil)))))) pss_nil)))) (pss_one (ps_ret (pe_tup (pa_cons (pv 2) (pa_cons (pv 3) pa_nil))))))), fn_body h (by rw [hvl]; decide) (fun ds R hR hl => ?_)⟩
  obtain ⟨S, r, rfl, h1, h2, h3, q⟩ := hR
  have hln : (S.map D.str).length = S.length := List.length_map ..
  refine t_seq (M := fun ρ' => ρ' = [.dat (.lst (S.map D.str)), .dat (.str r), .own ((stepF S r 0).1.map D.str), .dat (.str (stepF S r 0).2), .un, .un, .un]) (t_pair (P1 := fun e => e = .own []) (P2 := fun e => e = .dat (.str (List.replicate r.length 46))) (e_lst1 ea_nil (by simp)) (((e_opd (e_str (s := [46]) (by decide +kernel)) (EV.d1 (e_cb1 (ea_c (e_var rfl) ea_nil) (cd_lenS (by omega)))) (od_mulS (by omega) (by omega) (by decide))).is (y := .str (List.replicate r.length 46)) (by rw [Int.toNat_natCast, rep46])).ev.imp fun e ⟨d, a, b⟩ => by rw [a, b]) fun a b ha hb => by rw [ha, hb]; rfl) fun ρ' m => ?_
  subst m
  refine t_seq (M := fun ρ' => ∃ x4 x5, ρ' = [.dat (.lst (S.map D.str)), .dat (.str r), .own ((grd S r).1.map D.str), .dat (.str (grd S r).2), x4, x5, .un]) (t_for1 (iv_rngN (n := r.length) (ea_c (EV.d1 (e_cb1 (ea_c (e_var rfl) ea_nil) (cd_lenS (by omega)))) ea_nil) (by omega)) (fun ds i ρ' => ∃ x4 x5, ρ' = [.dat (.lst (S.map D.str)), .dat (.str r), .own ((stepF S r i).1.map D.str), .dat (.str (stepF S r i).2), x4, x5, .un]) (fun ds e => ⟨.un, .un, rfl⟩) (fun ds i d ρ' e hd inv => ?_) (fun ds ρ' e inv => ?_)) fun ρ' m => ?_
  · obtain ⟨x4, x5, rfl⟩ := inv
    have hrun := (step_run S r i).run
    have hlt := run_len h2 hrun
    have hdd := run_dots h2 hrun
    refine q_asgo (lc1_filt (t := fun s => canT s (stepF S r i).2 r) (emb := D.str) (f := D.str) (iv_list1 (e_var rfl)) (by omega) (fun j s hs => ?_) (fun j s hs _ => e_var rfl)) ?_
    · have hsl := h2 s (List.mem_of_getElem? hs)
      exact et_v1 (EV.d1 (e_call0 (Rg := Rg_law_fits) (R := fun e => e = .dat (.bl (canT s (stepF S r i).2 r))) (ea_c (e_var rfl) (ea_c (e_var rfl) (ea_c (e_var rfl) ea_nil))) ⟨s, r, (stepF S r i).2, rfl, by omega, hsl, by omega, rfl⟩))
    · refine t_freeze (i := 5) (ds := (S.filter fun s => canT s (stepF S r i).2 r).map D.str) rfl ?_
      have hh : (S.filter fun s => canT s (stepF S r i).2 r).head? = S.find? (fun s => canT s (stepF S r i).2 r) := List.head?_filter
      cases hL : S.filter (fun s => canT s (stepF S r i).2 r) with
      | nil =>
        rw [hL] at hh
        have hf : S.find? (fun s => canT s (stepF S r i).2 r) = none := hh.symm
        refine t_if (T := fun b => b = false) ((et_tru (e_var rfl)).is rfl) (fun e => nomatch e) (fun _ => ?_)
        exact t_next ⟨_, _, by rw [step_none hf]; rfl⟩
      | cons s l0 =>
        rw [hL] at hh
        have hf : S.find? (fun s => canT s (stepF S r i).2 r) = some s := hh.symm
        have hS := List.mem_of_find?_eq_some hf
        have hsl := h2 s hS
        refine t_if (T := fun b => b = true) ((et_tru (e_var rfl)).is rfl) (fun _ => ?_) (fun e => nomatch e)
        refine t_seq (M := fun ρ' => ∃ x4, ρ' = [.dat (.lst (S.map D.str)), .dat (.str r), .own (((stepF S r i).1 ++ [s]).map D.str), .dat (.str (stepF S r i).2), x4, .dat (.lst ((s :: l0).map D.str)), .un]) (t_app (PD := fun d => d = .str s) (ds := (stepF S r i).1.map D.str) rfl (e_opd (e_var rfl) e_int (od_ixL (j := 0) rfl rfl)) (by rw [List.length_map]; omega) fun d' hd' => ⟨.dat d, by rw [hd', List.map_append]; rfl⟩) fun ρ' m => ?_
        obtain ⟨x4, rfl⟩ := m
        refine t_asgd (PD := fun d => d = .str (ov (stepF S r i).2 (lotOf s))) ((EV.d1 (e_call0 (Rg := Rg_law_join) (R := fun e => e = .dat (.str (jn (stepF S r i).2 (lotOf s)))) (ea_c (e_var rfl) (ea_c (EV.d1 (e_call0 (Rg := Rg_law_lot) (R := fun e => e = .dat (.str (lotOf s))) (ea_c (e_opd (e_var rfl) e_int (od_ixL (j := 0) rfl rfl)) ea_nil) ⟨s, rfl, by omega, rfl⟩)) ea_nil)) ⟨(stepF S r i).2, lotOf s, rfl, by omega, rfl⟩)).imp fun d hd => by rw [hd, jn_ov (run_bin hrun) (bin_lot s)]) fun d hd => ⟨x4, .dat (.lst ((s :: l0).map D.str)), ?_⟩
        rw [hd, step_some hf]; rfl
  · obtain ⟨x4, x5, a⟩ := inv
    rw [e, List.length_map, List.length_range] at a
    exact ⟨x4, x5, a⟩
  · obtain ⟨x4, x5, rfl⟩ := m
    refine t_freeze (i := 2) (ds := (grd S r).1.map D.str) rfl ?_
    exact t_ret1 (e_tup1 (ea_c (e_var rfl) (ea_c (e_var rfl) ea_nil)) (by simp)) q

theorem ok_law_lines (T : Txt K mg) (G_law_lot : FnOk P w K mg base CX0 1 T.a_law_lot T.d_law_lot ["_law_r"] (SpE Rg_law_lot)) (G_law_fresh : FnOk P w K mg base CX0 1 T.a_law_fresh T.d_law_fresh ["_law_s", "_law_told"] (SpE Rg_law_fresh)) (G_law_greedy : FnOk P w K mg base CX0 3 T.a_law_greedy T.d_law_greedy ["_law_stack_here", "_law_r"] (SpE Rg_law_greedy)) : FnOk P w K mg base CX0 4 T.a_law_lines T.d_law_lines ["_law_frame_here", "_law_stack_here", "_law_r"] (SpE Rg_law_lines) := by
  refine T.F_law_lines.ok sc_law_lines (fun vs H Q E h => spE_len h len_law_lines) (fun cdv A outer s H vs Q E hr h => ?_)
  have hu := hu64 hr
  have hvl : vs.length = 3 := spE_len h len_law_lines
  refine ⟨_, (pss_cons (ps_asg (pe_call G_law_greedy (hr.mono (by decide)) (by rfl) T.g_law_greedy T.F_law_greedy.kp (b_law_greedy T) .nil pass0 (pa_cons (pv 1) (pa_cons (pv 2) pa_nil))) (pg_tup rfl (pgs_cons (pg_name (i := 3) sc_law_lines.nd rfl (Or.inl rfl)) (pgs_cons (pg_name (i := 4) sc_law_lines.nd rfl (Or.inl rfl)) pgs_nil)))) (pss_cons (ps_set (i := 6) sc_law_lines.nd rfl (Or.inl rfl) (pe_op op_plus (pe_lst (pa_cons (pe_tup (pa_cons pe_str (pa_cons (pv 2) pa_nil))) pa_nil)) (pe_lc (own := [("_law_s", 5)]) (g := gName 5) (tt := tYes) rfl sc_law_lines.nd (pi_listK (K := K) rfl (pv 3)) (blkOk_by (N := N_law_lines) (sc := defScope s_law_lines) (by decide +kernel)) (fun _ _ _ _ _ => (pg_name (i := 5) sc_law_lines.nd rfl (Or.inl rfl))) (fun _ _ _ _ _ => pts_nil) (fun _ _ _ _ _ => (pe_tup (pa_cons pe_str (pa_cons (pv 5) pa_nil))))))) (pss_cons (ps_if (pt_cmpR (op_eqK (K := K) rfl hu) (pv 4) (pe_call G_law_lot (hr.mono (by decide)) (by rfl) T.g_law_lot T.F_law_lot.kp (b_law_lot T) .nil pass0 (pa_cons (pv 2) pa_nil)) (nomark _)) (pss_one (ps_ret (pe_op op_plus (pv 6) (pe_lst (pa_cons (pe_tup (pa_cons pe_str pa_nil)) pa_nil))))) pss_nil) (pss_cons (ps_for PassesOwn.never rfl (pi_listK (K := K) rfl (pv 1)) (pg_name (i := 5) sc_law_lines.nd rfl (Or.inr rfl)) (pss_cons (ps_setLc (i := 7) (own := [("_law_k", 8)]) (g := gName 8) (tt := _) rfl sc_law_lines.nd rfl rfl (sw_true rfl rfl rfl (by decide +kernel)) (pi_listK (K := K) rfl (pe_call G_law_fresh (hr.mono (by decide)) (by rfl) T.g_law_fresh T.F_law_fresh.kp (b_law_fresh T) .nil pass0 (pa_cons (pv 5) (pa_cons (pv 4) pa_nil)))) (blkOk_by (N := N_law_lines) (sc := defScope s_law_lines) (by decide +kernel)) (fun _ _ _ _ _ => (pg_name (i := 8) sc_law_lines.nd rfl (Or.inl rfl))) (fun _ _ _ _ _ => (pts_one (pt_cmpR (op_neK (K := K) rfl hu) (pe_ix (ix_K (K := K) rfl) (pv 2) (pv 8) (fun _ _ => rfl)) (pe_ix (ix_K (K := K) rfl) (pv 5) (pv 8) (fun _ _ => rfl)) (nomark _)))) (fun _ _ _ _ _ => (pv 8))) (pss_one (ps_if (pt_truK (K := K) rfl (pv 7)) (pss_one (ps_expr (pe_bm PySem.F.plainAttrs_list PySem.F.slot_list_append PySem.F.type_list_append mt_append (pv 6) (pa_cons (pe_tup (pa_cons pe_str (pa_cons (pv 5) (pa_cons (pe_ix (ix_K (K := K) rfl) (pe_ix (ix_K (K := K) rfl) (pv 0) (pe_ix (ix_K (K := K) rfl) (pv 7) pe_int (fun _ _ => rfl)) (fun _ _ => rfl)) pe_int (fun _ _ => rfl)) pa_nil)))) pa_nil)))) pss_nil)))) (pss_one (ps_ret (pe_op op_plus (pv 6) (pe_lst (pa_cons (pe_tup (pa_cons pe_str pa_nil)) pa_nil))))))))), fn_body h (by rw [hvl]; decide) (fun ds R hR hl => ?_)⟩
  obtain ⟨cs, S, r, rfl, h1, h2, h3, h4, q⟩ := hR
  have hrun := (grd_run S r).run
  have hfin := grd_fin h2
  have hlt := run_len h2 hrun
  have hd := run_dots h2 hrun
  have hrl : r.length ≤ 1000 := by omega
  unfold paperD linesD at q
  generalize hg : grd S r = gg at *
  obtain ⟨tk, t⟩ := gg
  dsimp only at *
  refine t_seq (M := fun ρ' => ρ' = [.dat (.lst (cs.map cellD)), .dat (.lst (S.map D.str)), .dat (.str r), .dat (.lst (tk.map D.str)), .dat (.str t), .un, .un, .un, .un]) (t_unp (Q2 := fun x y => x = .lst (tk.map D.str) ∧ y = .str t) ((EV.d1 (e_call0 (Rg := Rg_law_greedy) (R := fun e => e = .dat (.tup [.lst (tk.map D.str), .str t])) (ea_c (e_var rfl) (ea_c (e_var rfl) ea_nil)) ⟨S, r, rfl, h1, h2, hrl, by rw [hg]⟩)).imp fun d e => ⟨_, _, e, rfl, rfl⟩) fun x y ⟨e1, e2⟩ => by rw [e1, e2]; rfl) fun ρ' m => ?_
  subst m
  refine q_asgo (ds := lRow r :: tk.map lTake) (e_op1 (EV.o1 (e_lst1 (ds := [lRow r]) (ea_c (e_tup1 (ea_c (e_str (s := [114, 111, 119]) (by decide +kernel)) (ea_c (e_var rfl) ea_nil)) (by simp)) ea_nil) (by simp))) (EV.o1 (lc1_map (ds := tk) (emb := D.str) (f := lTake) (iv_list1 (e_var rfl)) (by omega) fun i s hs => e_tup1 (ea_c (e_str (s := [116, 97, 107, 101]) (by decide +kernel)) (ea_c (e_var rfl) ea_nil)) (by simp))) (od_addL (by rw [List.length_map]; simp; omega))) ?_
  have eqL : ∀ ρ : List En, ρ[4]? = some (.dat (.str t)) → ρ[2]? = some (.dat (.str r)) → True := fun _ _ _ => trivial
  refine q_if1 (b := decide (t = lotOf r)) (et_eqS (e_var rfl) (EV.d1 (e_call0 (Rg := Rg_law_lot) (R := fun e => e = .dat (.str (lotOf r))) (ea_c (e_var rfl) ea_nil) ⟨r, rfl, hrl, rfl⟩))) (fun e => ?_) (fun e => ?_)
  · have e' := of_decide_eq_true e
    rw [if_pos e'] at q
    refine t_freeze (i := 6) (ds := lRow r :: tk.map lTake) rfl ?_
    exact t_ret (e_op1 (e_var rfl) (EV.o1 (e_lst1 (ds := [lMade]) (ea_c (e_tup1 (ea_c (e_str (s := [109, 97, 100, 101]) (by decide +kernel)) ea_nil) (by simp)) ea_nil) (by simp))) (od_addL (by simp; omega))) fun e he => by rw [he]; exact q
  · have e' := of_decide_eq_false e
    rw [if_neg e'] at q
    have hwl : ∀ i, (waitS (S.take i) t).length ≤ S.length := fun i => Nat.le_trans (List.length_filter_le _ _) (by rw [List.length_take]; omega)
    refine t_seq (M := fun ρ' => ∃ x5 x7, ρ' = [.dat (.lst (cs.map cellD)), .dat (.lst (S.map D.str)), .dat (.str r), .dat (.lst (tk.map D.str)), .dat (.str t), x5, .own (lRow r :: tk.map lTake ++ (waitS S t).map (barOf cs r t)), x7, .un]) (t_for1 (iv_list1 (e_var rfl)) (fun ds i ρ' => ∃ x5 x7, ρ' = [.dat (.lst (cs.map cellD)), .dat (.lst (S.map D.str)), .dat (.str r), .dat (.lst (tk.map D.str)), .dat (.str t), x5, .own (lRow r :: tk.map lTake ++ (waitS (S.take i) t).map (barOf cs r t)), x7, .un]) (fun ds e => ⟨.un, .un, by simp [waitS]⟩) (fun ds i d ρ' e hdi inv => ?_) (fun ds ρ' e ⟨x5, x7, a⟩ => ⟨x5, x7, by rw [a, e, List.length_map, List.take_length]⟩)) fun ρ' m => ?_
    · subst e
      obtain ⟨x5, x7, rfl⟩ := inv
      obtain ⟨s, hs, rfl⟩ := map_get hdi
      have hS := List.mem_of_getElem? hs
      have hsl := h2 s hS
      have hol := outs_len s t
      refine q_asgo (ds := (bars s t r).map fun (k : Nat) => D.int k) ((lc1_filt (ds := outs s t) (t := fun k => !decide (r.getD k 0 = s.getD k 0)) (emb := fun (k : Nat) => D.int k) (f := fun k => .int k) (iv_list1 (EV.o1 (e_call0 (Rg := Rg_law_fresh) (R := fun e => e = .own ((outs s t).map fun (k : Nat) => .int k)) (ea_c (e_var rfl) (ea_c (e_var rfl) ea_nil)) ⟨s, t, rfl, by omega, by omega, by rw [frs_eq]⟩))) (by omega) (fun j k hk => ?_) (fun j k hk _ => e_var rfl))) ?_
      · have hkl := outs_lt (List.mem_of_getElem? hk)
        refine (et_neS (e_opd (e_var rfl) (e_var rfl) (od_ixS (j := k) rfl (get_of_lt (by omega)) (by omega))) (e_opd (e_var rfl) (e_var rfl) (od_ixS (j := k) rfl (get_of_lt (by omega)) (by omega)))).is ?_
        rw [str1]
      refine t_freeze (i := 7) (ds := (bars s t r).map fun (k : Nat) => D.int k) rfl ?_
      cases hb : bars s t r with
      | nil =>
        refine t_if (T := fun b => b = false) ((et_tru (e_var rfl)).is rfl) (fun e => nomatch e) (fun _ => ?_)
        have ho : ¬ (0 : Int) < ((outs s t).length : Int) := fun z => by
          have : canT s t r = true := by unfold canT; rw [decide_eq_true z, hb]; rfl
          rw [hfin s hS] at this; cases this
        exact t_next ⟨_, _, by rw [wait_take hs, if_neg ho]; rfl⟩
      | cons i0 l =>
        have hi0 : i0 < s.length := by
          have : i0 ∈ bars s t r := by rw [hb]; exact List.mem_cons_self
          unfold bars at this
          exact outs_lt (List.mem_filter.mp this).1
        have ho : (0 : Int) < ((outs s t).length : Int) := by
          have : i0 ∈ bars s t r := by rw [hb]; exact List.mem_cons_self
          unfold bars at this
          have := List.length_pos_of_mem (List.mem_filter.mp this).1
          omega
        have hcl : cs[i0]? = some (cs.getD i0 ([], 0)) := by rw [List.getD_eq_getElem?_getD, List.getElem?_eq_getElem (show i0 < cs.length by omega)]; rfl
        have hbo : barOf cs r t s = .tup [.str [98, 97, 114], .str s, .str (cs.getD i0 ([], 0)).1] := by
          unfold barOf
          rw [hb, List.headD_cons]
        refine t_if (T := fun b => b = true) ((et_tru (e_var rfl)).is rfl) (fun _ => ?_) (fun e => nomatch e)
        have hwi := hwl i
        refine t_app (PD := fun d => d = barOf cs r t s) (ds := lRow r :: tk.map lTake ++ (waitS (S.take i) t).map (barOf cs r t)) rfl ((e_tup1 (ea_c (e_str (s := [98, 97, 114]) (by decide +kernel)) (ea_c (e_var rfl) (ea_c (e_opd (e_opd (e_var rfl) (e_opd (e_var rfl) e_int (od_ixL (j := 0) rfl rfl)) (od_ixL (j := i0) rfl (by rw [List.getElem?_map, hcl]; rfl))) e_int (od_ixT (j := 0) rfl rfl)) ea_nil))) (by simp)).imp fun d hd => by rw [hd, hbo]) (by simp; omega) fun d hd => ⟨.dat (.str s), .dat (.lst ((i0 :: l).map fun (k : Nat) => D.int k)), ?_⟩
        rw [hd, wait_take hs, if_pos ho, List.map_append, List.append_assoc]; rfl
    · obtain ⟨x5, x7, rfl⟩ := m
      have hwi := hwl S.length
      rw [List.take_length] at hwi
      refine t_freeze (i := 6) (ds := lRow r :: tk.map lTake ++ (waitS S t).map (barOf cs r t)) rfl ?_
      exact t_ret (e_op1 (e_var rfl) (EV.o1 (e_lst1 (ds := [lBarred]) (ea_c (e_tup1 (ea_c (e_str (s := [98, 97, 114, 114, 101, 100]) (by decide +kernel)) ea_nil) (by simp)) ea_nil) (by simp))) (od_addL (by simp; omega))) fun e he => by rw [he]; exact q


end
end Nt

namespace Nt
open PySem PySem.Spec PyProof.Rows L2


/-- the number of signs + -/
def plus (s : List Nat) : Nat := s.count 43
theorem cnt_plus : ∀ l : List Nat, cnt 43 l = (plus l : Int)
  | [] => cnt_nil 43
  | c :: l => by
    rw [cnt_cons, cnt_plus l]
    unfold plus
    rw [List.count_cons]
    by_cases h : c = 43
    · simp [h]; omega
    · simp [h]
def okT (z : Str) : Prop := z.cps.toList.length ≤ 1000
def kf_lot_size (z : Str) : Int := (plus z.cps.toList : Int)
def Rg_lot_size (ds : List D) (P : En → Prop) : Prop := ∃ s, ds = [.str s] ∧ s.length ≤ 1000 ∧ P (.dat (.int (plus s : Nat)))
theorem len_lot_size (ds P) (h : Rg_lot_size ds P) : ds.length = 1 := by obtain ⟨_, rfl, _⟩ := h; rfl
theorem hkey_lot_size (z : Str) (h : okT z) (P : En → Prop) (p : P (.dat (.int (kf_lot_size z)))) : Rg_lot_size [.str z.cps.toList] P := ⟨_, rfl, h, p⟩
theorem md_plus {s : List Nat} : MD (fun x xs H Q => ∃ a b, x = V.str a ∧ xs = [V.str b] ∧ Q (.int (Txt.count a b)) H) (.str s) [.str [43]] (· = .dat (.int (plus s : Nat))) := fun W v vs r rs Q q => by
  cases r
  cases rs with
  | cons r1 rr =>
    cases rr
    cases r1
    refine ⟨_, _, rfl, rfl, ?_⟩
    have e : Txt.count (⟨s.toArray⟩ : Str) ⟨[43].toArray⟩ = ((plus s : Nat) : Int) := by
      rw [← cnt_plus]
      have h := count_cnt (⟨s.toArray⟩ : Str) 43
      simpa using h
    rw [e]
    exact dat1 (.int _) q
section
variable {P : Program} {w : World} {K : PySem.W.Frag} {mg : Str → Option Value} {base : Heap} {ρ : List En} {te : TE}
/-- sorted(set(x)), read -/
theorem e_sset {x : D} {xs : List (List Nat)} (sq : Sq x (xs.map D.str)) (h : ED te ρ (· = x)) (hl : xs.length ≤ 1000) : EV (tSSet K te) ρ (fun e => ∃ ys : List Str, e = .own (ys.map fun y => .str y.cps.toList) ∧ (∀ z, z ∈ ys ↔ z ∈ xs.map fun z => (⟨z.toArray⟩ : Str)) ∧ ys.Nodup ∧ sortedS ys = true) := fun W0 W σ E Q q => h W0 W σ E _ fun v d W1 g1 r1 e1 => by
  subst e1
  have fin : ∀ (l : Addr) (ws : List V), v = .ref l → Reps W1.b (xs.map D.str) ws → (SqL K W1.h l ws ∨ SqT K W1.h l ws) → ∃ (l : Addr) (zs : List Str), v = .ref l ∧ (SqL K W1.h l (zs.map V.str) ∨ SqT K W1.h l (zs.map V.str)) ∧ zs.length ≤ 1000 ∧
      ∀ (ys : List Str) (p : Addr), (∀ z, z ∈ ys ↔ z ∈ zs) → ys.Nodup → sortedS ys = true → W1.h p = none → Q (.ref p) (upd W1.h p (.lst (ys.map V.str))) := fun l ws ev r2 hs => by
    have ew := reps_strs r2
    subst ew
    refine ⟨l, _, ev, hs, by rw [List.length_map]; exact hl, fun ys p hm nd so hp => ?_⟩
    have rr : Reps W1.b (ys.map fun y => D.str y.cps.toList) (ys.map V.str) := by
      clear hm nd so
      induction ys with
      | nil => exact .nil
      | cons y ys ih => exact .cons (rep_str y) ih
    obtain ⟨a, b⟩ := new_own g1 hp rr
    exact q (.ref p) _ _ a b ⟨ys, rfl, hm, nd, so⟩
  generalize hy : xs.map D.str = ds at sq fin
  cases sq with
  | lst =>
    cases r1 with
    | lst ha ra => exact fin _ _ rfl ra (.inl (sq_l (W1.le _ _ ha)))
  | tup =>
    cases r1 with
    | tup ha ra => exact fin _ _ rfl ra (.inr (sq_t (W1.le _ _ ha)))

theorem ok_lot_size (T : Txt K mg)  : FnOk P w K mg base CX0 1 T.a_lot_size T.d_lot_size ["lot"] (SpE Rg_lot_size) := by
  refine T.F_lot_size.ok sc_lot_size (fun vs H Q E h => spE_len h len_lot_size) (fun cdv A outer s H vs Q E hr h => ?_)
  have hu := hu64 hr
  have hvl : vs.length = 1 := spE_len h len_lot_size
  refine ⟨_, (pss_one (ps_ret (pe_bm PySem.F.plainAttrs_str PySem.F.slot_str_count PySem.F.type_str_count mt_count (pv 0) (pa_cons (pe_glob (v := .str "+") rfl T.c_PLUS ⟨_, rfl⟩) pa_nil)))), fn_body h (by rw [hvl]; decide) (fun ds R hR hl => ?_)⟩
  obtain ⟨s, rfl, hs, q⟩ := hR
  exact t_ret1 (EV.d1 (e_bm (T := fun ds => ds = [.str [43]]) (e_var rfl) (fun W v r => by cases r; rfl) (ea_c (e_str (s := [43]) (by decide +kernel)) ea_nil) fun ds e => by rw [e]; exact md_plus)) q


def ltc (a b : List Nat) : Prop := plus a < plus b ∨ (plus a = plus b ∧ a < b)
/-- M has the members of L, strictly rising by the number of +, then by text -/
def IsOrd (M L : List (List Nat)) : Prop := (∀ z, z ∈ M ↔ z ∈ L) ∧ M.Pairwise ltc
theorem rising_pw : ∀ (r : List Str) (p : Str), risingS p r = true → (∀ x ∈ r, ¬ x.cps.toList < p.cps.toList) ∧ r.Pairwise fun a b => ¬ b.cps.toList < a.cps.toList
  | [], _, _ => ⟨fun _ h => (nomatch h), List.Pairwise.nil⟩
  | x :: r, p, h => by
    unfold risingS at h
    rw [Bool.and_eq_true, Bool.not_eq_true'] at h
    have h1 : ¬ x.cps.toList < p.cps.toList := by
      have := h.1
      rw [ltCps_eq] at this
      exact of_decide_eq_false this
    obtain ⟨a, b⟩ := rising_pw r x h.2
    refine ⟨fun y hy => ?_, List.pairwise_cons.mpr ⟨a, b⟩⟩
    rcases List.mem_cons.mp hy with e | hy
    · rw [e]; exact h1
    · exact lst_tr h1 (a y hy)
theorem sorted_pw {l : List Str} (h : sortedS l = true) (nd : l.Nodup) : l.Pairwise fun a b => a.cps.toList < b.cps.toList := by
  have h1 : l.Pairwise fun a b => ¬ b.cps.toList < a.cps.toList := by
    cases l with
    | nil => exact List.Pairwise.nil
    | cons x r =>
      obtain ⟨a, b⟩ := rising_pw r x h
      exact List.pairwise_cons.mpr ⟨a, b⟩
  refine (h1.and nd).imp fun {a b} hab => ?_
  by_cases q : a.cps.toList < b.cps.toList
  · exact q
  · exfalso
    refine hab.2 ?_
    have e := List.le_antisymm (List.not_lt.mp hab.1) (List.not_lt.mp q)
    obtain ⟨⟨a⟩⟩ := a
    obtain ⟨⟨b⟩⟩ := b
    have e' : a = b := e
    rw [e']
theorem key_ord {ys : List Str} {qs : List (Int × Str)} (h : KeyOut kf_lot_size ys qs) (hs : sortedS ys = true) (nd : ys.Nodup) : IsOrd (qs.map fun y => y.2.cps.toList) (ys.map fun y => y.cps.toList) := by
  have hp := h.2.perm
  have hk : ∀ q ∈ qs, q.1 = (plus q.2.cps.toList : Int) := fun q hq => by
    obtain ⟨x, _, rfl⟩ := List.mem_map.mp (hp.mem_iff.mp hq)
    rfl
  refine ⟨fun z => ?_, ?_⟩
  · have e := (hp.map fun y : Int × Str => y.2.cps.toList).mem_iff (a := z)
    rw [List.map_map] at e
    exact e
  · refine List.pairwise_map.mpr ?_
    have hy : (ys.map fun x => (kf_lot_size x, x)).Pairwise fun a b : Int × Str => a.2.cps.toList < b.2.cps.toList := List.pairwise_map.mpr (sorted_pw hs nd)
    refine List.pairwise_iff_forall_sublist.mpr fun {p q} hsub => ?_
    have h1 := List.pairwise_iff_forall_sublist.mp h.1 hsub
    have h2 : ¬ q.1 < p.1 := of_decide_eq_false h1
    have kp := hk p (hsub.subset List.mem_cons_self)
    have kq := hk q (hsub.subset (List.mem_cons_of_mem _ List.mem_cons_self))
    by_cases h3 : p.1 < q.1
    · exact .inl (by omega)
    · refine .inr ⟨by omega, ?_⟩
      have hf := hsub.filter (SrtO.eqv lt3 p)
      have e1 : SrtO.eqv lt3 p p = true := SrtO.eqv_iff.mpr ⟨decide_eq_false (by omega), decide_eq_false (by omega)⟩
      have e2 : SrtO.eqv lt3 p q = true := SrtO.eqv_iff.mpr ⟨decide_eq_false h3, decide_eq_false h2⟩
      rw [List.filter_cons_of_pos e1, List.filter_cons_of_pos e2, List.filter_nil, h.2.cls p] at hf
      exact List.pairwise_iff_forall_sublist.mp hy (hf.trans List.filter_sublist)
def Rg_ordered_lots (ds : List D) (P : En → Prop) : Prop := ∃ (x : D) (L : List (List Nat)), ds = [x] ∧ Sq x (L.map D.str) ∧ L.length ≤ 1000 ∧ (∀ z ∈ L, z.length ≤ 1000) ∧ ∀ M, IsOrd M L → P (.own (M.map D.str))
theorem len_ordered_lots (ds P) (h : Rg_ordered_lots ds P) : ds.length = 1 := by obtain ⟨_, _, rfl, _⟩ := h; rfl
theorem map_mk (L : List (List Nat)) : (L.map fun z => (⟨z.toArray⟩ : Str)).map (fun y => y.cps.toList) = L := by
  rw [List.map_map]
  exact (List.map_congr_left fun z _ => rfl).trans (List.map_id L)

theorem ok_ordered_lots (T : Txt K mg) (G_lot_size : FnOk P w K mg base CX0 1 T.a_lot_size T.d_lot_size ["lot"] (SpE Rg_lot_size)) : FnOk P w K mg base CX0 4 T.a_ordered_lots T.d_ordered_lots ["lots"] (SpE Rg_ordered_lots) := by
  refine T.F_ordered_lots.ok sc_ordered_lots (fun vs H Q E h => spE_len h len_ordered_lots) (fun cdv A outer s H vs Q E hr h => ?_)
  have hu := hu64 hr
  have hvl : vs.length = 1 := spE_len h len_ordered_lots
  refine ⟨_, (pss_one (ps_ret (pe_callBK (cr_sKey (ok := okT) (kf := kf_lot_size) rfl G_lot_size (hr.mono (by decide)) (b_lot_size T) hkey_lot_size) (by rfl) T.n_sorted (by decide +kernel) (pa_cons (pe_sortedSet rfl (by rfl) T.n_sorted (by rfl) T.n_set (pv 0)) pa_nil) (pk_cons (pe_glob (v := .ref T.a_lot_size) rfl T.g_lot_size rfl) pk_nil)))), fn_body h (by rw [hvl]; decide) (fun ds R hR hl => ?_)⟩
  obtain ⟨x, L, rfl, sq, hl, hz, q⟩ := hR
  refine t_ret (P := R) (e_skey ?_) fun e he => he
  exact (e_sset sq (e_var rfl) hl).imp fun e ⟨ys, e1, hm, nd, so⟩ => by
    have hml : ∀ z, z ∈ (ys.map fun y => y.cps.toList) ↔ z ∈ L := fun z => by
      rw [← map_mk L]
      constructor
      · intro h
        obtain ⟨y, hy, rfl⟩ := List.mem_map.mp h
        exact List.mem_map_of_mem ((hm y).mp hy)
      · intro h
        obtain ⟨y, hy, rfl⟩ := List.mem_map.mp h
        exact List.mem_map_of_mem ((hm y).mpr hy)
    refine ⟨ys.map fun y => y.cps.toList, by rw [e1, List.map_map]; rfl, ?_, fun z hz' => hz z ((hml z).mp hz'), fun qs ho => ?_⟩
    · rw [List.length_map]
      have := nodup_len nd fun z hz => (hm z).mp hz
      rw [List.length_map] at this
      omega
    · have em : (ys.map fun y => y.cps.toList).map (fun z => (⟨z.toArray⟩ : Str)) = ys := by
        rw [List.map_map]
        exact (List.map_congr_left fun z _ => rfl).trans (List.map_id ys)
      rw [em] at ho
      have io := key_ord ho so nd
      have := q (qs.map fun y => y.2.cps.toList) ⟨fun z => (io.1 z).trans (hml z), io.2⟩
      rw [List.map_map] at this
      exact this

end
end Nt

namespace Nt
open PySem PySem.Spec PyProof.Rows L2


/-- (the number of +, text) as data -/
def nsD (z : List Nat) : D := .tup [.int (plus z : Nat), .str z]
def kOf (H : Hp) : V → Int × Str
  | .ref t => match H t with
    | some (.tup [.int n, .str s]) => (n, s)
    | _ => (0, Str.empty)
  | _ => (0, Str.empty)
theorem nsD_at {H : Hp} : ∀ {L : List (List Nat)} {ws : List V}, Reps H (L.map nsD) ws → ∀ w ∈ ws, ∃ z ∈ L, Rep H (nsD z) w ∧ kOf H w = ((plus z : Int), (⟨z.toArray⟩ : Str)) ∧ ∃ t, w = .ref t ∧ H t = some (.tup [.int (plus z : Int), .str ⟨z.toArray⟩])
  | [], _, .nil, w, h => nomatch h
  | z :: L, _, .cons r rr, w, h => by
    rcases List.mem_cons.mp h with e | h
    · subst e
      refine ⟨z, List.mem_cons_self, r, ?_⟩
      cases r with
      | tup ha ra =>
        cases ra with
        | cons r1 ra =>
          cases ra with
          | cons r2 ra =>
            cases ra
            cases r1
            cases r2
            refine ⟨?_, _, rfl, ha⟩
            unfold kOf
            simp only [ha]
            rfl
    · obtain ⟨y, hy, q⟩ := nsD_at rr w h
      exact ⟨y, List.mem_cons_of_mem _ hy, q⟩
theorem nsD_map {H : Hp} : ∀ {L : List (List Nat)} {ws : List V}, Reps H (L.map nsD) ws → ws.map (fun y => (kOf H y).2.cps.toList) = L
  | [], _, .nil => rfl
  | z :: L, _, .cons r rr => by
    rw [List.map_cons, nsD_map rr]
    congr 1
    have rr1 : Reps H ([z].map nsD) [_] := .cons r .nil
    obtain ⟨y, hy, _, e, _⟩ := nsD_at rr1 _ List.mem_cons_self
    rw [e, List.mem_singleton.mp hy]
theorem reps_each {H : Hp} {f : V → List Nat} : ∀ {ys : List V}, (∀ y ∈ ys, Rep H (nsD (f y)) y) → Reps H ((ys.map f).map nsD) ys
  | [], _ => .nil
  | y :: ys, h => .cons (h y List.mem_cons_self) (reps_each fun z hz => h z (List.mem_cons_of_mem _ hz))
section
variable {K : PySem.W.Frag} {ρ : List En} {ta tb te th to : TE} {tt : TT} {wi : TI} {X : XK} {R : En → Prop}
theorem pe_bmK {X : Cx} {o e : Expr} {es : List Expr} {to : TE} {t : TA} {name : Str} {apos cpos : Pos} {Ty id : String} {r : V → List V → Hp → VK → Prop} (hK : X.K = K) (pa : PlainAttrs Ty) (slot : Slot Ty name id) (hty : typeOf (.builtin id) = pure (.type "method_descriptor")) (hm : MtR X id r) (ho : PE X o to) (ha : PA X (e :: es) t)
    (hbase : attributeBase o name X.env (eval o X.env) = eval o X.env := by rfl)
    (hfew : ((backTo cpos (starEach (e :: es) X.env)).all (fun x => !x.1) && (backToKw cpos (keywordEach [] X.env)).all (fun x => x.1.isSome)
      && decide ((e :: es).length + ([] : List Keyword).length + (if ([] : List Keyword).isEmpty then 0 else 1) < 30)) = true := by rfl)
    (hline : (apos.endLine == cpos.line) = true := by rfl) (hs : starEach (e :: es) X.env = (false, eval e X.env) :: starEach es X.env := by rfl) (hplain : (backTo cpos (starEach es X.env)).any (·.1) = false := by rfl) :
    PE X (.Call (.Attribute o name apos) (e :: es) [] cpos) (tBM K Ty r to t) := hK ▸ pe_bm pa slot hty hm ho ha hbase hfew hline hs hplain
theorem cr_sortedNSK {X : Cx} (hK : X.K = K) : CallR X (.builtin "sorted") (rSortedNS K) := hK ▸ cr_sortedNS
theorem cd_sns {L : List (List Nat)} : CD (rSortedNS K) [.lst (L.map nsD)] (fun e => ∃ M : List (List Nat), e = .own (M.map nsD) ∧ M.Perm L ∧ M.Pairwise fun a b => ¬ ltc b a) := fun W vs r Q q => by
  cases r with
  | cons r rr =>
    cases rr
    cases r with
    | lst ha ra =>
      rename_i a ws
      have hz := nsD_at ra
      refine ⟨a, ws, kOf W.b, rfl, sq_l (W.le _ _ ha), fun x hx => ?_, fun ys p hs hp hn => ?_⟩
      · obtain ⟨z, _, _, e, t, rfl, ht⟩ := hz x hx
        exact ⟨t, rfl, by rw [e]; exact W.le _ _ ht⟩
      · have hy : ∀ y ∈ ys, ∃ z ∈ L, Rep W.b (nsD z) y ∧ kOf W.b y = ((plus z : Int), (⟨z.toArray⟩ : Str)) := fun y hy => by
          obtain ⟨z, hzl, hr, e, _⟩ := hz y (hp.mem_iff.mp hy)
          exact ⟨z, hzl, hr, e⟩
        have hy2 : ∀ y ∈ ys, Rep W.b (nsD (kOf W.b y).2.cps.toList) y := fun y hm => by
          obtain ⟨z, _, hr, e⟩ := hy y hm
          rw [e]; exact hr
        have rr := reps_each (f := fun y => (kOf W.b y).2.cps.toList) hy2
        refine own1 rr (fun u e W' g r2 e2 => q u e W' g r2 ⟨_, e2, ?_, ?_⟩) p hn
        · have := hp.map fun y => (kOf W.b y).2.cps.toList
          rw [nsD_map ra] at this
          exact this
        · refine List.pairwise_map.mpr (List.Pairwise.imp_of_mem (fun {x y} hx hyy h => ?_) hs)
          obtain ⟨zx, _, _, ex⟩ := hy x hx
          obtain ⟨zy, _, _, ey⟩ := hy y hyy
          have h' := ltNS_no.mp h
          rw [ex, ey] at h' ⊢
          intro c
          refine h' ?_
          rcases c with c | ⟨c1, c2⟩
          · exact .inl (Int.ofNat_lt.mpr c)
          · exact .inr ⟨congrArg Int.ofNat c1, c2⟩
/-- a comprehension over pairs that stand -/
theorem e_lc1t {j k : Nat} {T : List D → Prop} {Inv : List D → Nat → List D → Prop} (h : IV1 wi ρ T) (hjk : j ≠ k) (hn : ∀ ds, T ds → ds.length ≤ 100000) (h0 : ∀ ds, T ds → Inv ds 0 []) (ht : ∀ ds d, T ds → d ∈ ds → ∃ x y, d = .tup [x, y])
    (hs : ∀ ds i x y acc, T ds → ds[i]? = some (.tup [x, y]) → Inv ds i acc → ET tt ((ρ.set j (.dat x)).set k (.dat y)) fun b => if b = true then ED te ((ρ.set j (.dat x)).set k (.dat y)) fun z => Inv ds (i + 1) (acc ++ [z]) else Inv ds (i + 1) acc) :
    EV (tLc wi (gTup K 2 (gCons (gName j) (gCons (gName k) gNil))) tt te [j, k]) ρ (fun e => ∃ ds acc, e = .own acc ∧ T ds ∧ Inv ds ds.length acc) := fun W0 W σ E Q q => h W0 W σ E _ fun J ds W1 g1 it t Dd hD => by
  have E1 := E.grow g1
  refine ⟨fun i m H => i ≤ ds.length ∧ m = ds.length - i ∧ Lc W1 Dd (Inv ds) i H, ⟨ds.length, Nat.zero_le _, rfl, ⟨W1.add Dd (.lst []) hD, [], [], rfl, Grow.add hD, upd_same, W1.le.none' hD, .nil, Nat.le_refl _, h0 ds t⟩⟩, ?_⟩
  rintro i m H ⟨hi, hm, ⟨W', acc, ws, rfl, g, k1, k2, r, hl, inv⟩⟩
  by_cases hlt : i < ds.length
  · refine .inr ⟨it.go W' g.b i hlt, fun H' => Lc W1 Dd (Inv ds) (i + 1) H', fun H' l => ⟨ds.length - (i + 1), by omega, hlt, rfl, l⟩, fun v H' yy => ?_⟩
    obtain ⟨e, d, hd, rd⟩ := it.yld W' g.b i v H' hlt yy
    subst e
    obtain ⟨x, y, rfl⟩ := ht ds d t (List.mem_of_getElem? hd)
    cases rd with
    | tup ha ra =>
      rename_i a ws2
      cases ra with
      | cons rx ra =>
        cases ra with
        | cons ry ra =>
          cases ra
          have E2 := Env.set (((E1.grow g).drop k none).drop j none) (Grow.refl _) (e := .dat x) rx j
          have E3 := Env.set E2 (Grow.refl _) (e := .dat y) ry k
          have er : ((((ρ.set k .un).set j .un).set j (.dat x)).set k (.dat y)) = ((ρ.set j (.dat x)).set k (.dat y)) := by
            rw [List.set_set, List.set_comm _ _ (show k ≠ j from hjk.symm), List.set_set]
          rw [er] at E3
          refine ⟨a, _, rfl, sq_t (W'.le _ _ ha), rfl, _, _, rfl, _, [], rfl, rfl, set_wipe2 hjk, ?_⟩
          exact lc_step hD E3 g k1 k2 r hl (by have := hn ds t; omega) (hs ds i x y acc t hd inv)
  · have e : i = ds.length := by omega
    subst e
    exact .inl ⟨it.stop W' g.b, q _ (.own acc) W' (g1.trans g) ⟨Dd, ws, rfl, k1, k2, g1.h.none' hD, r⟩ ⟨ds, acc, rfl, t, inv⟩⟩
theorem lc1t_map {j k : Nat} {α : Type} {ds : List α} {fx fy f : α → D} (hjk : j ≠ k) (h : IV1 wi ρ (· = ds.map fun a => D.tup [fx a, fy a])) (hn : ds.length ≤ 100000) (he : ∀ (i : Nat) d, ds[i]? = some d → ED te ((ρ.set j (.dat (fx d))).set k (.dat (fy d))) (· = f d)) :
    EV (tLc wi (gTup K 2 (gCons (gName j) (gCons (gName k) gNil))) tYes te [j, k]) ρ (· = .own (ds.map f)) :=
  (e_lc1t (T := fun x => x = ds.map fun a => D.tup [fx a, fy a]) (Inv := fun _ i acc => acc = (ds.take i).map f) h hjk (fun x e => by rw [e, List.length_map]; exact hn) (fun x e => rfl) (fun x d e hd => by
    subst e
    obtain ⟨a, _, rfl⟩ := List.mem_map.mp hd
    exact ⟨_, _, rfl⟩) (fun x i u v acc e hd ha => by
    subst e
    obtain ⟨c, hc, e2⟩ := map_get' hd
    have e3 := D.tup.inj e2
    have e4 : u = fx c := (List.cons.inj e3).1
    have e5 : v = fy c := (List.cons.inj (List.cons.inj e3).2).1
    subst e4 e5
    refine et_yes.imp fun b hb => ?_
    rw [hb]
    refine iteT ((he i c hc).imp fun y hy => ?_)
    rw [take_step hc, List.map_append, ha, hy]
    rfl)).imp fun e ⟨x, acc, e1, e2, e3⟩ => by rw [e1, e3, e2, List.length_map, take_all]
/-- x[:j], j open -/
theorem e_slTo {x : D} {T : Nat → Prop} (h : ED te ρ (· = x)) (hh : ED th ρ (fun d => ∃ j : Nat, d = .int j ∧ T j)) (hr : ∀ j : Nat, T j → SD (rSlU K) x none (some (j : Int)) R) : EV (tSl (rSlU K) te tNoPart (tPart th)) ρ R := fun W0 W σ E Q q =>
  h W0 W σ E _ fun v d W1 g1 r1 p1 => by
    subst p1
    refine hh W0 W1 σ (E.grow g1) _ fun w dj W2 g2 r2 ⟨j, e, t⟩ => ?_
    subst e
    cases r2
    exact ⟨j, rfl, hr j t W2 v (r1.mono g2.b) Q fun u e W' g r p => q u e W' ((g1.trans g2).trans g) (r.back (g1.trans g2).h) p⟩
end
theorem ltc_ir {a : List Nat} : ¬ ltc a a := fun h => by
  rcases h with h | ⟨_, h⟩
  · omega
  · exact List.lt_irrefl _ h
theorem ltc_as {a b : List Nat} (h : ltc a b) : ¬ ltc b a := fun h2 => by
  rcases h with h | ⟨h, h'⟩ <;> rcases h2 with g | ⟨g, g'⟩
  · omega
  · omega
  · omega
  · exact List.lt_irrefl _ (List.lt_trans h' g')
theorem ltc_to {a b : List Nat} (h : ¬ ltc b a) (hne : a ≠ b) : ltc a b := by
  by_cases h1 : plus a < plus b
  · exact .inl h1
  · refine .inr ⟨?_, ?_⟩
    · have : ¬ plus b < plus a := fun z => h (.inl z)
      omega
    · have h2 : plus a = plus b := by
        have : ¬ plus b < plus a := fun z => h (.inl z)
        omega
      have h3 : ¬ b < a := fun z => h (.inr ⟨h2.symm, z⟩)
      by_cases q : a < b
      · exact q
      · exact absurd (List.le_antisymm (List.not_lt.mp h3) (List.not_lt.mp q)) hne
theorem ord_same : ∀ {M N : List (List Nat)}, M.Pairwise ltc → N.Pairwise ltc → (∀ z, z ∈ M ↔ z ∈ N) → M = N
  | [], [], _, _, _ => rfl
  | [], b :: N, _, _, h => absurd ((h b).mpr List.mem_cons_self) (fun z => nomatch z)
  | a :: M, [], _, _, h => absurd ((h a).mp List.mem_cons_self) (fun z => nomatch z)
  | a :: M, b :: N, hM, hN, h => by
    obtain ⟨m1, m2⟩ := List.pairwise_cons.mp hM
    obtain ⟨n1, n2⟩ := List.pairwise_cons.mp hN
    have e : a = b := by
      rcases List.mem_cons.mp ((h a).mp List.mem_cons_self) with e | ha
      · exact e
      · rcases List.mem_cons.mp ((h b).mpr List.mem_cons_self) with e | hb
        · exact e.symm
        · exact absurd (n1 a ha) (ltc_as (m1 b hb))
    subst e
    congr 1
    refine ord_same m2 n2 fun z => ⟨fun hz => ?_, fun hz => ?_⟩
    · rcases List.mem_cons.mp ((h z).mp (List.mem_cons_of_mem _ hz)) with e | q
      · subst e; exact absurd (m1 z hz) ltc_ir
      · exact q
    · rcases List.mem_cons.mp ((h z).mpr (List.mem_cons_of_mem _ hz)) with e | q
      · subst e; exact absurd (n1 z hz) ltc_ir
      · exact q
theorem ord_uniq {M N L : List (List Nat)} (h1 : IsOrd M L) (h2 : IsOrd N L) : M = N := ord_same h1.2 h2.2 fun z => (h1.1 z).trans (h2.1 z).symm
theorem ord_nodup {M L : List (List Nat)} (h : IsOrd M L) : M.Nodup := h.2.imp fun {a b} hab e => by subst e; exact ltc_ir hab
theorem ord_len {M L : List (List Nat)} (h : IsOrd M L) : M.length ≤ L.length := nodup_len (ord_nodup h) fun z hz => (h.1 z).mp hz
def Rg_law_lots (ds : List D) (P : En → Prop) : Prop := ∃ (L : List (List Nat)), ds = [.lst (L.map D.str)] ∧ L.length ≤ 1000 ∧ (∀ z ∈ L, z.length ≤ 1000) ∧ ∀ M, IsOrd M L → P (.own (M.map D.str))
theorem len_law_lots (ds P) (h : Rg_law_lots ds P) : ds.length = 1 := by obtain ⟨_, rfl, _⟩ := h; rfl
theorem repc (c n : Nat) : (List.replicate n [c]).flatten = List.replicate n c := by
  induction n with
  | zero => rfl
  | succ n ih => rw [List.replicate_succ, List.flatten_cons, ih]; rfl
theorem sm_strs (n : Nat) (l : List (List Nat)) (hl : l.length ≤ 100000) : (D.lst (l.map D.str)).sm (n + 1) = true := by
  show ((l.map D.str).all (D.sm n) && decide ((l.map D.str).length ≤ 100000)) = true
  rw [Bool.and_eq_true, decide_eq_true_eq, List.length_map, List.all_eq_true]
  refine ⟨fun d hd => ?_, hl⟩
  obtain ⟨i, _, rfl⟩ := List.mem_map.mp hd
  cases n <;> rfl

def unS : D → List Nat
  | .str s => s
  | _ => []
theorem perm_strs {ys : List D} {S : List (List Nat)} (h : ys.Perm (S.map D.str)) : ∃ S1 : List (List Nat), ys = S1.map D.str ∧ (∀ s, s ∈ S1 ↔ s ∈ S) ∧ S1.length = S.length := by
  have e : ∀ y ∈ ys, y = .str (unS y) := fun y hy => by
    obtain ⟨s, _, rfl⟩ := List.mem_map.mp (h.mem_iff.mp hy)
    rfl
  have e2 : ys = (ys.map unS).map D.str := by
    rw [List.map_map, List.map_congr_left (f := D.str ∘ unS) (g := id) fun y hy => (e y hy).symm, List.map_id]
  refine ⟨ys.map unS, e2, fun s => ?_, by rw [List.length_map, h.length_eq, List.length_map]⟩
  constructor
  · intro hs
    have : D.str s ∈ ys := by rw [e2]; exact List.mem_map_of_mem hs
    obtain ⟨z, hz, hz2⟩ := List.mem_map.mp (h.mem_iff.mp this)
    cases hz2; exact hz
  · intro hs
    exact List.mem_map.mpr ⟨.str s, h.mem_iff.mpr (List.mem_map_of_mem hs), rfl⟩


section
variable {P : Program} {w : World} {K : PySem.W.Frag} {mg : Str → Option Value} {base : Heap} {ρ : List En} {ta tb te : TE} {X : XK}
theorem c_ord {x : D} {L M : List (List Nat)} (h1 : ED ta ρ (· = x)) (sq : Sq x (L.map D.str)) (hl : L.length ≤ 1000) (hz : ∀ z ∈ L, z.length ≤ 1000) (hM : IsOrd M L) : ED (tCall (SpE Rg_ordered_lots) [] X (tCons ta tNil)) ρ (· = .lst (M.map D.str)) :=
  EV.o1 (e_call0 (R := fun e => e = .own (M.map D.str)) (ea_c h1 ea_nil) ⟨x, L, rfl, sq, hl, hz, fun M' hM' => by rw [ord_uniq hM' hM]⟩)
theorem e_pluses {n : Nat} (h1 : ED ta ρ (· = .int n)) (hn : n ≤ 1000) : ED (tOp rTimes (tC (.str "+")) ta) ρ (· = .str (List.replicate n 43)) := (e_opd (e_str (s := [43]) (by decide +kernel)) h1 (od_mulS (by omega) (by omega) (by decide))).is (by rw [Int.toNat_natCast, repc])

theorem ok_law_lots (T : Txt K mg) (G_law_once : FnOk P w K mg base CX0 1 T.a_law_once T.d_law_once ["_law_things"] (SpE Rg_law_once)) : FnOk P w K mg base CX0 2 T.a_law_lots T.d_law_lots ["_law_told"] (SpE Rg_law_lots) := by
  refine T.F_law_lots.ok sc_law_lots (fun vs H Q E h => spE_len h len_law_lots) (fun cdv A outer s H vs Q E hr h => ?_)
  have hu := hu64 hr
  have hvl : vs.length = 1 := spE_len h len_law_lots
  refine ⟨_, (pss_cons (ps_set (i := 1) sc_law_lots.nd rfl (Or.inl rfl) (pe_callB (cr_sortedNSK (K := K) rfl) (by rfl) T.n_sorted (by decide +kernel) (pa_cons (pe_lc (own := [("_law_x", 2)]) (g := gName 2) (tt := tYes) rfl sc_law_lots.nd (pi_listK (K := K) rfl (pv 0)) (blkOk_by (N := N_law_lots) (sc := defScope s_law_lots) (by decide +kernel)) (fun _ _ _ _ _ => (pg_name (i := 2) sc_law_lots.nd rfl (Or.inl rfl))) (fun _ _ _ _ _ => pts_nil) (fun _ _ _ _ _ => (pe_tup (pa_cons (pe_bmK (K := K) rfl PySem.F.plainAttrs_str PySem.F.slot_str_count PySem.F.type_str_count mt_count (pv 2) (pa_cons pe_str pa_nil)) (pa_cons (pv 2) pa_nil))))) pa_nil))) (pss_one (ps_ret (pe_call G_law_once (hr.mono (by decide)) (by rfl) T.g_law_once T.F_law_once.kp (b_law_once T) .nil pass0 (pa_cons (pe_lc (own := [("_law_size_here", 3), ("_law_x", 2)]) (g := gTup K 2 (gCons (gName 3) (gCons (gName 2) gNil))) (tt := tYes) rfl sc_law_lots.nd (pi_listK (K := K) rfl (pv 1)) (blkOk_by (N := N_law_lots) (sc := defScope s_law_lots) (by decide +kernel)) (fun _ _ _ _ _ => (pg_tup rfl (pgs_cons (pg_name (i := 3) sc_law_lots.nd rfl (Or.inl rfl)) (pgs_cons (pg_name (i := 2) sc_law_lots.nd rfl (Or.inl rfl)) pgs_nil)))) (fun _ _ _ _ _ => pts_nil) (fun _ _ _ _ _ => (pv 2))) pa_nil))))), fn_body h (by rw [hvl]; decide) (fun ds R hR hl => ?_)⟩
  obtain ⟨L, rfl, hl, hz, q⟩ := hR
  refine q_asg (P := fun e => ∃ M : List (List Nat), e = .own (M.map nsD) ∧ M.Perm L ∧ M.Pairwise fun a b => ¬ ltc b a) (e_cb1 (ea_c (EV.o1 (ds := L.map nsD) (lc1_map (emb := D.str) (f := nsD) (iv_list1 (e_var rfl)) (by omega) fun i z hzi => ?_)) ea_nil) cd_sns) fun e ⟨M, e1, hp, hs⟩ => ?_
  · exact e_tup1 (ea_c (EV.d1 (e_bm (T := fun ds => ds = [.str [43]]) (e_var rfl) (fun W v r => by cases r; rfl) (ea_c (e_str (s := [43]) (by decide +kernel)) ea_nil) fun ds e => by rw [e]; exact md_plus)) (ea_c (e_var rfl) ea_nil)) (by simp)
  subst e1
  refine t_freeze (i := 1) (ds := M.map nsD) rfl ?_
  refine t_ret (P := R) (e_call0 (ea_c (EV.o1 (ds := M.map D.str) (lc1t_map (fx := fun z => .int (plus z : Nat)) (fy := D.str) (f := D.str) (by decide) (iv_list1 (e_var rfl)) (by rw [hp.length_eq]; omega) fun i z hzi => e_var rfl)) ea_nil) ⟨M, rfl, by rw [hp.length_eq]; omega, fun S' hm hlen nd sb => q S' ⟨fun z => (hm z).trans hp.mem_iff, ?_⟩⟩) fun e he => he
  exact ((hs.sublist sb).and nd).imp fun {a b} hab => ltc_to hab.1 hab.2

end
end Nt

namespace Nt
open PySem PySem.Spec PyProof.Rows L2


theorem rowV_dots (cs : List (List Nat × Nat)) : RowV cs (List.replicate cs.length 46) :=
  ⟨List.length_replicate, fun i c m h _ => .inl (by
    have := List.mem_of_getElem? h
    exact List.eq_of_mem_replicate this)⟩
theorem rowV_ov {cs : List (List Nat × Nat)} {x y : List Nat} (hx : RowV cs x) (hy : RowV cs y) : RowV cs (ov x y) := by
  refine ⟨by rw [ov_len, hx.1, hy.1, Nat.min_self], fun i c m h hm => ?_⟩
  have hi := (List.getElem?_eq_some_iff.mp h).1
  rw [ov_len] at hi
  rw [ov_get (get_of_lt (l := x) (i := i) (by omega)) (get_of_lt (l := y) (i := i) (by omega))] at h
  have e := Option.some.inj h
  by_cases h1 : x.getD i 0 = 46
  · rw [if_pos h1] at e
    exact hy.2 i c m (by rw [get_of_lt (l := y) (i := i) (by omega), e]) hm
  · rw [if_neg h1] at e
    exact hx.2 i c m (by rw [get_of_lt (l := x) (i := i) (by omega), e]) hm

theorem clo_rowV {cs : List (List Nat × Nat)} {S : List (List Nat)} {z : List Nat} (hS : ∀ s ∈ S, RowV cs s) (h : Clo S cs.length z) : RowV cs z := by
  induction h with
  | blank => exact rowV_dots cs
  | step hs _ ih => exact rowV_ov (hS _ hs) ih
def chW (c : Nat) : Bool := !decide ([c] < [97]) && !decide ([122] < [c])
theorem chW_ok {c : Nat} (h : 97 ≤ c ∧ c ≤ 122) : chW c = true := by
  unfold chW
  rw [decide_eq_false (by simp [List.cons_lt_cons_iff]; omega), decide_eq_false (by simp [List.cons_lt_cons_iff]; omega)]
  rfl
/-- cells as a band takes them -/
structure CelV (cs : List (List Nat × Nat)) : Prop where
  ne : 1 ≤ cs.length
  le : cs.length ≤ 12
  nm : ∀ c ∈ cs, NmW c.1
  vs : ∀ c ∈ cs, 1 ≤ c.2 ∧ c.2 ≤ 4
  nd : (cs.map Prod.fst).Nodup
theorem CelV.cs {cs : List (List Nat × Nat)} (h : CelV cs) : CsV cs := ⟨by have := h.le; omega, h.vs⟩
def Rg_is_name (ds : List D) (P : En → Prop) : Prop := ∃ s, ds = [.str s] ∧ NmW s ∧ P (.dat (.bl true))
def Rg_is_integer (ds : List D) (P : En → Prop) : Prop := ∃ i : Int, ds = [.int i] ∧ P (.dat (.bl true))
def Rg_is_number (ds : List D) (P : En → Prop) : Prop := ∃ i a b : Int, ds = [.int i, .int a, .int b] ∧ a ≤ i ∧ i ≤ b ∧ P (.dat (.bl true))
def Rg_is_cell (ds : List D) (P : En → Prop) : Prop := ∃ c : List Nat × Nat, ds = [cellD c] ∧ NmW c.1 ∧ 1 ≤ c.2 ∧ c.2 ≤ 4 ∧ P (.dat (.bl true))
def Rg_check_cells (ds : List D) (P : En → Prop) : Prop := ∃ cs : List (List Nat × Nat), ds = [.lst (cs.map cellD)] ∧ CelV cs ∧ P (.dat .non)
def Rg_check_seeds (ds : List D) (P : En → Prop) : Prop := ∃ (cs : List (List Nat × Nat)) (S : List (List Nat)), ds = [.lst (cs.map cellD), .lst (S.map D.str)] ∧ CelV cs ∧ SdV cs S ∧ S.length ≤ 30 ∧ P (.dat .non)
def Rg_check_told (ds : List D) (P : En → Prop) : Prop := ∃ (cs : List (List Nat × Nat)) (S : List (List Nat)), ds = [.lst (cs.map cellD), .lst (S.map D.str)] ∧ CelV cs ∧ SdV cs S ∧ S.length ≤ 30 ∧ P (.dat .non)
/-- at most 40 rows -/
def Few (S : List (List Nat)) (n : Nat) : Prop := ∀ F : List (List Nat), F.Nodup → (∀ z ∈ F, Clo S n z) → F.length ≤ 40
def Rg_made_rows (ds : List D) (P : En → Prop) : Prop := ∃ (S : List (List Nat)) (n : Nat), ds = [.int (n : Nat), .lst (S.map D.str), .int 800] ∧ S.length ≤ 100 ∧ Len n S ∧ n ≤ 20 ∧ Few S n ∧ ∀ M, IsRows M S n → P (.own (M.map D.str))
theorem len_is_name (ds P) (h : Rg_is_name ds P) : ds.length = 1 := by obtain ⟨_, rfl, _⟩ := h; rfl
theorem len_is_integer (ds P) (h : Rg_is_integer ds P) : ds.length = 1 := by obtain ⟨_, rfl, _⟩ := h; rfl
theorem len_is_number (ds P) (h : Rg_is_number ds P) : ds.length = 3 := by obtain ⟨_, _, _, rfl, _⟩ := h; rfl
theorem len_is_cell (ds P) (h : Rg_is_cell ds P) : ds.length = 1 := by obtain ⟨_, rfl, _⟩ := h; rfl
theorem len_check_cells (ds P) (h : Rg_check_cells ds P) : ds.length = 1 := by obtain ⟨_, rfl, _⟩ := h; rfl
theorem len_check_seeds (ds P) (h : Rg_check_seeds ds P) : ds.length = 2 := by obtain ⟨_, _, rfl, _⟩ := h; rfl
theorem len_check_told (ds P) (h : Rg_check_told ds P) : ds.length = 2 := by obtain ⟨_, _, rfl, _⟩ := h; rfl
theorem len_made_rows (ds P) (h : Rg_made_rows ds P) : ds.length = 3 := by obtain ⟨_, _, rfl, _⟩ := h; rfl
/-- closed from the other side -/
theorem clo_right {S F : List (List Nat)} {n : Nat} (hS : Len n S) (hb : List.replicate n 46 ∈ F) (hl : Len n F) (hc : ∀ z ∈ F, ∀ s ∈ S, ov z s ∈ F) : ∀ {r : List Nat}, Clo S n r → r ∈ F := fun {r} h => by
  have key : ∀ {r : List Nat}, Clo S n r → ∀ x ∈ F, ov x r ∈ F := fun {r} h => by
    induction h with
    | blank =>
      intro x hx
      have : List.replicate n 46 = List.replicate x.length 46 := by rw [hl x hx]
      rw [this, ov_blank]; exact hx
    | @step s r hs hr ih =>
      intro x hx
      have h1 := hl x hx
      have h2 := hS s hs
      have h3 := clo_len hS hr
      rw [← ov_as (by omega) (by omega)]
      exact ih _ (hc x hx s hs)
  have h2 := key h _ hb
  have h3 := clo_len hS h
  rw [show List.replicate n 46 = List.replicate r.length 46 by rw [h3], ov_dots] at h2
  exact h2
theorem clo_ovr {S : List (List Nat)} {n : Nat} {z s : List Nat} (hS : Len n S) (hz : Clo S n z) (hs : s ∈ S) : Clo S n (ov z s) := clo_ov hS hz (clo_seed hS hs)
/-- what the loop of made_rows keeps: F known, G fresh -/
structure MdI (S : List (List Nat)) (n : Nat) (F G : List (List Nat)) : Prop where
  nd : F.Nodup
  clo : ∀ z ∈ F, Clo S n z
  bl : List.replicate n 46 ∈ F
  sub : ∀ z ∈ G, z ∈ F
  done : ∀ z ∈ F, z ∉ G → ∀ s ∈ S, ov z s ∈ F
def kdF (F : List (List Nat)) : List (Key × D) := F.map fun z => (tk z, D.bl true)
section
variable {P : Program} {w : World} {K : PySem.W.Frag} {mg : Str → Option Value} {base : Heap}

theorem ok_is_name (T : Txt K mg)  : FnOk P w K mg base CX0 1 T.a_is_name T.d_is_name ["value"] (SpE Rg_is_name) := by
  refine T.F_is_name.ok sc_is_name (fun vs H Q E h => spE_len h len_is_name) (fun cdv A outer s H vs Q E hr h => ?_)
  have hu := hu64 hr
  have hvl : vs.length = 1 := spE_len h len_is_name
  refine ⟨_, (pss_cons (ps_if (PW.pt (pw_or (pt_not (pt_val (pe_callB (call_isiK1 (K := K) rfl) (by rfl) T.n_isinstance (by decide +kernel) (pa_cons (pv 0) (pa_cons (pe_bltn (v := .ty "str") (by rfl) T.n_str (by decide +kernel) rfl) pa_nil))))) (pw_or1 (pt_not (pt_chain op_le op_le pe_int (pe_callB (call_lenK (K := K) rfl) (by rfl) T.n_len (by decide +kernel) (pa_cons (pv 0) pa_nil)) (pe_glob (v := .int 6) rfl T.c_LONGEST_NAME ⟨_, rfl⟩)))))) (pss_one (ps_ret pe_bl)) pss_nil) (pss_one (ps_ret (pe_callB (call_allK (K := K) rfl rfl) (by rfl) T.n_all (by decide +kernel) (pa_cons (pe_lc (own := [("letter", 1)]) (g := gName 1) (tt := tYes) rfl sc_is_name.nd (pi_str (pv 0)) (blkOk_by (N := N_is_name) (sc := defScope s_is_name) (by decide +kernel)) (fun _ _ _ _ _ => (pg_name (i := 1) sc_is_name.nd rfl (Or.inl rfl))) (fun _ _ _ _ _ => pts_nil) (fun _ _ _ _ _ => (pe_chain op_leS op_leS pe_str (pv 1) pe_str))) pa_nil))))), fn_body h (by rw [hvl]; decide) (fun ds R hR hl => ?_)⟩
  obtain ⟨s, rfl, ⟨h1, h2, h3⟩, q⟩ := hR
  have tS : kitB (D.str s).ty "str" = some ((D.str s).isU "str") := kitU rfl (by simp)
  refine q_if1 (b := false) ((et_or1 (a := false) (c := false) ((et_not1 (et_v1 (e_isi (b := true) (e_var rfl) rfl tS))).is rfl) (fun _ => (et_not1 (et_t1 (e_chain (b := true) (c := true) e_int (EV.d1 (e_cb1 (ea_c (e_var rfl) ea_nil) (cd_lenS (by omega)))) e_int (by have := od_le (i := 1) (j := (s.length : Int)); rwa [decide_eq_true (by omega)] at this) (fun _ => by have := od_le (i := (s.length : Int)) (j := 6); rwa [decide_eq_true (by omega)] at this)))).is rfl)).is rfl) (fun e => nomatch e) (fun _ => ?_)
  refine t_ret1 (EV.d1 (e_cb1 (ea_c (EV.o1 ((lc1_map (f := fun c => .bl (chW c)) (iv_strS (e_var rfl)) (by omega) fun i c hc => e_chain (b := !decide ([c] < [97])) (c := !decide ([122] < [c])) (e_str (s := [97]) (by decide +kernel)) (e_var rfl) (e_str (s := [122]) (by decide +kernel)) od_leS (fun _ => od_leS)).imp fun e he => ?_)) ea_nil) (cd_all (bs := s.map chW)))) ?_
  · rw [he, List.map_map]; rfl
  · have e : (s.map chW).all id = true := by
      rw [List.all_map]
      exact List.all_eq_true.mpr fun c hc => chW_ok (h3 c hc)
    rw [e]
    exact q

theorem ok_is_integer (T : Txt K mg)  : FnOk P w K mg base CX0 1 T.a_is_integer T.d_is_integer ["value"] (SpE Rg_is_integer) := by
  refine T.F_is_integer.ok sc_is_integer (fun vs H Q E h => spE_len h len_is_integer) (fun cdv A outer s H vs Q E hr h => ?_)
  have hu := hu64 hr
  have hvl : vs.length = 1 := spE_len h len_is_integer
  refine ⟨_, (pss_one (ps_ret (pe_and (pe_callB (call_isiK1 (K := K) rfl) (by rfl) T.n_isinstance (by decide +kernel) (pa_cons (pv 0) (pa_cons (pe_bltn (v := .ty "int") (by rfl) T.n_int (by decide +kernel) rfl) pa_nil))) (pe_one (pe_not (pe_callB (call_isiK1 (K := K) rfl) (by rfl) T.n_isinstance (by decide +kernel) (pa_cons (pv 0) (pa_cons (pe_bltn (v := .ty "bool") (by rfl) T.n_bool (by decide +kernel) rfl) pa_nil)))))))), fn_body h (by rw [hvl]; decide) (fun ds R hR hl => ?_)⟩
  obtain ⟨i, rfl, q⟩ := hR
  have t1 : kitB (D.int i).ty "int" = some ((D.int i).isU "int") := kitU rfl (by simp)
  have t2 : kitB (D.int i).ty "bool" = some ((D.int i).isU "bool") := kitU rfl (by simp)
  exact t_ret1 ((e_and (a := true) (c := true) (e_isi (b := true) (e_var rfl) rfl t1) (fun _ => (e_not (e_isi (b := false) (e_var rfl) rfl t2)).is rfl)).is rfl) q

theorem ok_is_number (T : Txt K mg) (G_is_integer : FnOk P w K mg base CX0 1 T.a_is_integer T.d_is_integer ["value"] (SpE Rg_is_integer)) : FnOk P w K mg base CX0 2 T.a_is_number T.d_is_number ["value", "least", "most"] (SpE Rg_is_number) := by
  refine T.F_is_number.ok sc_is_number (fun vs H Q E h => spE_len h len_is_number) (fun cdv A outer s H vs Q E hr h => ?_)
  have hu := hu64 hr
  have hvl : vs.length = 3 := spE_len h len_is_number
  refine ⟨_, (pss_one (ps_ret (pe_and (pe_call G_is_integer (hr.mono (by decide)) (by rfl) T.g_is_integer T.F_is_integer.kp (b_is_integer T) .nil pass0 (pa_cons (pv 0) pa_nil)) (pe_one (pe_chain op_le op_le (pv 1) (pv 0) (pv 2)))))), fn_body h (by rw [hvl]; decide) (fun ds R hR hl => ?_)⟩
  obtain ⟨i, a, b, rfl, h1, h2, q⟩ := hR
  exact t_ret1 ((e_and (a := true) (c := true) (EV.d1 (e_call0 (R := fun e => e = .dat (.bl true)) (ea_c (e_var rfl) ea_nil) ⟨i, rfl, rfl⟩)) (fun _ => (e_chain (b := true) (c := true) (e_var rfl) (e_var rfl) (e_var rfl) (by have := od_le (i := a) (j := i); rwa [decide_eq_true h1] at this) (fun _ => by have := od_le (i := i) (j := b); rwa [decide_eq_true h2] at this)).is rfl)).is rfl) q

theorem ok_is_cell (T : Txt K mg) (G_is_name : FnOk P w K mg base CX0 1 T.a_is_name T.d_is_name ["value"] (SpE Rg_is_name)) (G_is_number : FnOk P w K mg base CX0 2 T.a_is_number T.d_is_number ["value", "least", "most"] (SpE Rg_is_number)) : FnOk P w K mg base CX0 3 T.a_is_cell T.d_is_cell ["value"] (SpE Rg_is_cell) := by
  refine T.F_is_cell.ok sc_is_cell (fun vs H Q E h => spE_len h len_is_cell) (fun cdv A outer s H vs Q E hr h => ?_)
  have hu := hu64 hr
  have hvl : vs.length = 1 := spE_len h len_is_cell
  refine ⟨_, (pss_cons (ps_if (PW.pt (pw_or (pt_not (pt_val (pe_callB (call_isiK1 (K := K) rfl) (by rfl) T.n_isinstance (by decide +kernel) (pa_cons (pv 0) (pa_cons (pe_bltn (v := .ty "tuple") (by rfl) T.n_tuple (by decide +kernel) rfl) pa_nil))))) (pw_or1 (pt_cmpR (op_neK (K := K) rfl hu) (pe_callB (call_lenK (K := K) rfl) (by rfl) T.n_len (by decide +kernel) (pa_cons (pv 0) pa_nil)) pe_int (nomark _))))) (pss_one (ps_ret pe_bl)) pss_nil) (pss_one (ps_ret (pe_and (pe_call G_is_name (hr.mono (by decide)) (by rfl) T.g_is_name T.F_is_name.kp (b_is_name T) .nil pass0 (pa_cons (pe_ix (ix_K (K := K) rfl) (pv 0) pe_int (fun _ _ => rfl)) pa_nil)) (pe_one (pe_call G_is_number (hr.mono (by decide)) (by rfl) T.g_is_number T.F_is_number.kp (b_is_number T) .nil pass0 (pa_cons (pe_ix (ix_K (K := K) rfl) (pv 0) pe_int (fun _ _ => rfl)) (pa_cons pe_int (pa_cons (pe_glob (v := .int 4) rfl T.c_MOST_VALUES ⟨_, rfl⟩) pa_nil))))))))), fn_body h (by rw [hvl]; decide) (fun ds R hR hl => ?_)⟩
  obtain ⟨c, rfl, h1, h2, h3, q⟩ := hR
  have tT : kitB (cellD c).ty "tuple" = some ((cellD c).isU "tuple") := kitU rfl (by simp)
  refine q_if1 (b := false) ((et_or1 (a := false) (c := false) ((et_not1 (et_v1 (e_isi (b := true) (e_var rfl) rfl tT))).is rfl) (fun _ => (et_t1 (e_opd (EV.d1 (e_cb1 (ea_c (e_var (d := .tup [.str c.1, .int c.2]) rfl) ea_nil) cd_lenT)) e_int od_neI)).is (by simp))).is rfl) (fun e => nomatch e) (fun _ => ?_)
  exact t_ret1 ((e_and (a := true) (c := true) (EV.d1 (e_call0 (Rg := Rg_is_name) (R := fun e => e = .dat (.bl true)) (ea_c (e_opd (e_var (d := .tup [.str c.1, .int c.2]) rfl) e_int (od_ixT (j := 0) rfl rfl)) ea_nil) ⟨c.1, rfl, h1, rfl⟩)) (fun _ => EV.d1 (e_call0 (Rg := Rg_is_number) (R := fun e => e = .dat (.bl true)) (ea_c (e_opd (e_var (d := .tup [.str c.1, .int c.2]) rfl) e_int (od_ixT (j := 1) rfl rfl)) (ea_c e_int (ea_c e_int ea_nil))) ⟨_, _, _, rfl, by omega, by omega, rfl⟩))).is rfl) q

theorem ok_check_cells (T : Txt K mg) (G_is_cell : FnOk P w K mg base CX0 3 T.a_is_cell T.d_is_cell ["value"] (SpE Rg_is_cell)) : FnOk P w K mg base CX0 4 T.a_check_cells T.d_check_cells ["cells"] (SpE Rg_check_cells) := by
  refine T.F_check_cells.ok sc_check_cells (fun vs H Q E h => spE_len h len_check_cells) (fun cdv A outer s H vs Q E hr h => ?_)
  have hu := hu64 hr
  have hvl : vs.length = 1 := spE_len h len_check_cells
  refine ⟨_, (pss_cons (ps_if (PW.pt (pw_or (pt_not (pt_val (pe_callB (call_isiK2 (K := K) rfl) (by rfl) T.n_isinstance (by decide +kernel) (pa_cons (pv 0) (pa_cons (pe_tup (pa_cons (pe_bltn (v := .ty "list") (by rfl) T.n_list (by decide +kernel) rfl) (pa_cons (pe_bltn (v := .ty "tuple") (by rfl) T.n_tuple (by decide +kernel) rfl) pa_nil))) pa_nil))))) (pw_or1 (pt_not (pt_chain op_le op_le pe_int (pe_callB (call_lenK (K := K) rfl) (by rfl) T.n_len (by decide +kernel) (pa_cons (pv 0) pa_nil)) (pe_glob (v := .int 12) rfl T.c_MOST_CELLS ⟨_, rfl⟩)))))) (pss_one ps_never) pss_nil) (pss_cons (ps_set (i := 1) sc_check_cells.nd rfl (Or.inl rfl) (pe_lst pa_nil)) (pss_one (ps_for PassesOwn.never rfl (pi_enum (by rfl) T.n_enumerate (pa_cons (pv 0) pa_nil)) (pg_tup rfl (pgs_cons (pg_name (i := 2) sc_check_cells.nd rfl (Or.inl rfl)) (pgs_cons (pg_name (i := 3) sc_check_cells.nd rfl (Or.inl rfl)) pgs_nil))) (pss_cons (ps_if (PW.pt (pw_or (pt_not (pt_val (pe_call G_is_cell (hr.mono (by decide)) (by rfl) T.g_is_cell T.F_is_cell.kp (b_is_cell T) .nil pass0 (pa_cons (pv 3) pa_nil)))) (pw_or1 (pt_cmpR (op_inK (K := K) rfl) (pe_ix (ix_K (K := K) rfl) (pv 3) pe_int (fun _ _ => rfl)) (pv 1) (by rfl))))) (pss_one ps_never) pss_nil) (pss_one (ps_expr (pe_bm PySem.F.plainAttrs_list PySem.F.slot_list_append PySem.F.type_list_append mt_append (pv 1) (pa_cons (pe_ix (ix_K (K := K) rfl) (pv 3) pe_int (fun _ _ => rfl)) pa_nil))))))))), fn_body h (by rw [hvl]; decide) (fun ds R hR hl => ?_)⟩
  obtain ⟨cs, rfl, hc, q⟩ := hR
  have h1 := hc.ne
  have h12 := hc.le
  have hl : (cs.map cellD).length = cs.length := List.length_map ..
  have k1 : kitB (D.lst (cs.map cellD)).ty "list" = some ((D.lst (cs.map cellD)).isU "list") := kitU rfl (by simp)
  have k2 : kitB (D.lst (cs.map cellD)).ty "tuple" = some ((D.lst (cs.map cellD)).isU "tuple") := kitU rfl (by simp)
  refine q_if1 (b := false) ((et_or1 (a := false) (c := false) ((et_not1 (et_v1 (e_isi2 (x := true) (y := false) (e_var rfl) rfl k1 k2))).is rfl) (fun _ => (et_not1 (et_t1 (e_chain (b := true) (c := true) e_int (EV.d1 (e_cb1 (ea_c (e_var rfl) ea_nil) cd_lenL)) e_int (by have := od_le (i := 1) (j := ((cs.map cellD).length : Int)); rwa [decide_eq_true (by omega)] at this) (fun _ => by have := od_le (i := ((cs.map cellD).length : Int)) (j := 12); rwa [decide_eq_true (by omega)] at this)))).is rfl)).is rfl) (fun e => nomatch e) (fun _ => ?_)
  refine q_asgo (e_lst1 ea_nil (by simp)) ?_
  refine t_for2 (iv_enumL (ea_c (e_var rfl) ea_nil)) (fun ds i ρ' => ∃ x2 x3 : En, ρ' = [.dat (.lst (cs.map cellD)), .own ((cs.take i).map fun c => D.str c.1), x2, x3]) (fun ds e => ⟨_, _, rfl⟩) (fun ds i d ρ' e hd inv => ?_) (fun ds ρ' e inv => q)
  obtain ⟨x2, x3, rfl⟩ := inv
  rw [e] at hd
  obtain ⟨hd1, hd2⟩ := zip_get hd
  obtain ⟨c, hci, hd2e⟩ := map_get hd2
  obtain ⟨d1, d2⟩ := d
  simp only at hd1 hd2 hd2e
  subst hd2e
  have hcm := List.mem_of_getElem? hci
  have hil := (List.getElem?_eq_some_iff.mp hci).1
  have hx : ∀ ρ0 : List En, ρ0[3]? = some (.dat (cellD c)) → ED (tOp (rIx K) (tVar 3) (tC (.int 0))) ρ0 (· = .str c.1) := fun ρ0 h => e_opd (e_var (d := .tup [.str c.1, .int c.2]) h) e_int (od_ixT (j := 0) rfl rfl)
  have hno : c.1 ∉ (cs.take i).map Prod.fst := fun z => by
    have hnd := hc.nd
    rw [← List.take_append_drop i cs, List.map_append] at hnd
    have hd3 : cs.drop i = c :: cs.drop (i + 1) := by
      rw [List.drop_eq_getElem_cons hil]
      have : cs[i] = c := by
        rw [List.getElem?_eq_getElem hil] at hci
        exact Option.some.inj hci
      rw [this]
    rw [hd3] at hnd
    exact (List.nodup_append.mp hnd).2.2 _ z _ (List.mem_map.mpr ⟨c, List.mem_cons_self, rfl⟩) rfl
  refine q_if1 (b := false) ((et_or1 (a := false) (c := false) ((et_not1 (et_v1 (EV.d1 (e_call0 (R := fun e => e = .dat (.bl true)) (ea_c (e_var rfl) ea_nil) ⟨c, rfl, hc.nm c hcm, (hc.vs c hcm).1, (hc.vs c hcm).2, rfl⟩)))).is rfl) (fun _ => (et_lend (i := 1) (ds := (cs.take i).map fun c => D.str c.1) rfl (et_t1 (e_opd (hx _ rfl) (e_var (d := .lst (((cs.take i).map Prod.fst).map D.str)) (by rw [List.map_map]; rfl)) (od_inL (neg := false))))).is (by rw [if_neg Bool.false_ne_true]; exact decide_eq_false hno))).is rfl) (fun e => nomatch e) (fun _ => ?_)
  refine t_app (i := 1) (ds := (cs.take i).map fun c => D.str c.1) (PD := fun d => d = .str c.1) rfl (hx _ rfl) (by rw [List.length_map, List.length_take]; omega) fun d hd' => ?_
  subst hd'
  exact ⟨_, _, by rw [List.take_add_one, hci, List.map_append]; rfl⟩

theorem ok_check_seeds (T : Txt K mg) (G_is_row : FnOk P w K mg base CX0 1 T.a_is_row T.d_is_row ["cells", "value"] (SpE Rg_is_row)) (G_blank : FnOk P w K mg base CX0 1 T.a_blank T.d_blank ["many"] (SpE Rg_blank)) : FnOk P w K mg base CX0 3 T.a_check_seeds T.d_check_seeds ["cells", "seeds"] (SpE Rg_check_seeds) := by
  refine T.F_check_seeds.ok sc_check_seeds (fun vs H Q E h => spE_len h len_check_seeds) (fun cdv A outer s H vs Q E hr h => ?_)
  have hu := hu64 hr
  have hvl : vs.length = 2 := spE_len h len_check_seeds
  refine ⟨_, (pss_cons (ps_if (pt_not (pt_val (pe_callB (call_isiK2 (K := K) rfl) (by rfl) T.n_isinstance (by decide +kernel) (pa_cons (pv 1) (pa_cons (pe_tup (pa_cons (pe_bltn (v := .ty "list") (by rfl) T.n_list (by decide +kernel) rfl) (pa_cons (pe_bltn (v := .ty "tuple") (by rfl) T.n_tuple (by decide +kernel) rfl) pa_nil))) pa_nil))))) (pss_one ps_never) pss_nil) (pss_cons (ps_if (pt_cmpR op_gt (pe_callB (call_lenK (K := K) rfl) (by rfl) T.n_len (by decide +kernel) (pa_cons (pv 1) pa_nil)) (pe_glob (v := .int 30) rfl T.c_MOST_SEEDS ⟨_, rfl⟩) (nomark _)) (pss_one ps_never) pss_nil) (pss_one (ps_for PassesOwn.never rfl (pi_enum (by rfl) T.n_enumerate (pa_cons (pv 1) pa_nil)) (pg_tup rfl (pgs_cons (pg_name (i := 2) sc_check_seeds.nd rfl (Or.inl rfl)) (pgs_cons (pg_name (i := 3) sc_check_seeds.nd rfl (Or.inl rfl)) pgs_nil))) (pss_one (ps_if (PW.pt (pw_or (pt_not (pt_val (pe_call G_is_row (hr.mono (by decide)) (by rfl) T.g_is_row T.F_is_row.kp (b_is_row T) .nil pass0 (pa_cons (pv 0) (pa_cons (pv 3) pa_nil))))) (pw_or (pt_cmpR (op_eqK (K := K) rfl hu) (pv 3) (pe_call G_blank (hr.mono (by decide)) (by rfl) T.g_blank T.F_blank.kp (b_blank T) .nil pass0 (pa_cons (pe_callB (call_lenK (K := K) rfl) (by rfl) T.n_len (by decide +kernel) (pa_cons (pv 0) pa_nil)) pa_nil)) (nomark _)) (pw_or1 (pt_cmpR (op_inK (K := K) rfl) (pv 3) (pe_slice (sl_K (K := K) rfl) (pv 1) po_none (po_some (pv 2))) (by rfl)))))) (pss_one ps_never) pss_nil)))))), fn_body h (by rw [hvl]; decide) (fun ds R hR hl => ?_)⟩
  obtain ⟨cs, S, rfl, hc, hS, hSl, q⟩ := hR
  have h12 := hc.le
  have hl : (S.map D.str).length = S.length := List.length_map ..
  have k1 : kitB (D.lst (S.map D.str)).ty "list" = some ((D.lst (S.map D.str)).isU "list") := kitU rfl (by simp)
  have k2 : kitB (D.lst (S.map D.str)).ty "tuple" = some ((D.lst (S.map D.str)).isU "tuple") := kitU rfl (by simp)
  refine q_if1 (b := false) ((et_not1 (et_v1 (e_isi2 (x := true) (y := false) (e_var rfl) rfl k1 k2))).is rfl) (fun e => nomatch e) (fun _ => ?_)
  refine q_if1 (b := false) ((et_t1 (e_opd (EV.d1 (e_cb1 (ea_c (e_var rfl) ea_nil) cd_lenL)) e_int od_gt)).is (decide_eq_false (by rw [hl]; omega))) (fun e => nomatch e) (fun _ => ?_)
  refine t_for2 (iv_enumL (ea_c (e_var rfl) ea_nil)) (fun ds i ρ' => ∃ x2 x3 : En, ρ' = [.dat (.lst (cs.map cellD)), .dat (.lst (S.map D.str)), x2, x3]) (fun ds e => ⟨_, _, rfl⟩) (fun ds i d ρ' e hd inv => ?_) (fun ds ρ' e inv => q)
  obtain ⟨x2, x3, rfl⟩ := inv
  rw [e] at hd
  obtain ⟨hd1, hd2⟩ := zip_get hd
  obtain ⟨s, hsi, hd2e⟩ := map_get hd2
  obtain ⟨hil, hd1e⟩ := ixs_get' hd1
  obtain ⟨d1, d2⟩ := d
  simp only at hd1 hd2 hd2e hd1e
  subst hd2e hd1e
  have hsm := List.mem_of_getElem? hsi
  have hrow := hS.row s hsm
  have hcr := rowV_ok hc.cs hrow
  have hilS := (List.getElem?_eq_some_iff.mp hsi).1
  have hcl : (cs.map cellD).length = cs.length := List.length_map ..
  have hno : s ∉ S.take i := fun z => by
    obtain ⟨m, hm⟩ := List.mem_iff_getElem?.mp z
    rw [List.getElem?_take] at hm
    split at hm
    · rename_i hmi
      have := (List.getElem?_inj (i := m) (j := i) (by omega) hS.nd).mp (hm.trans hsi.symm)
      omega
    · cases hm
  refine t_if (T := fun b => b = false) ((et_or1 (a := false) (c := false) ((et_not1 (et_v1 (EV.d1 (e_call0 (R := fun e => e = .dat (.bl true)) (ea_c (e_var rfl) (ea_c (e_var rfl) ea_nil)) ⟨_, cs, s, rfl, .lst _, hcr.1, hcr.2.1, hcr.2.2.1, by rw [hcr.2.2.2]⟩)))).is rfl) (fun _ => (et_or1 (a := false) (c := false) ((et_eqS (e_var rfl) (EV.d1 (e_call0 (R := fun e => e = .dat (.str (List.replicate cs.length 46))) (ea_c ((EV.d1 (e_cb1 (ea_c (e_var rfl) ea_nil) cd_lenL)).is (by rw [hcl])) ea_nil) ⟨cs.length, rfl, by omega, rfl⟩))).is (decide_eq_false fun z => ?_)) (fun _ => (et_t1 (e_opd (e_var rfl) (EV.o1 ((e_sl (e_var rfl) eo_none (eo_part (e_var rfl)) (sd_lst (K := K))).imp (R' := fun e => e = .own ((S.take i).map D.str)) fun e he => by rw [he, cut_to (k := i) rfl (by omega), List.map_take])) (od_inL (neg := false)))).is (by rw [if_neg Bool.false_ne_true]; exact decide_eq_false hno))).is rfl)).is rfl) (fun e => nomatch e) (fun _ => t_next ⟨_, _, rfl⟩)
  obtain ⟨j, hj, hne⟩ := hS.nbl s hsm
  rw [z, List.length_replicate] at hj
  rw [z, List.getD_eq_getElem?_getD, List.getElem?_replicate, if_pos hj] at hne
  exact hne rfl

theorem ok_check_told (T : Txt K mg)  : FnOk P w K mg base CX0 3 T.a_check_told T.d_check_told ["cells", "rows"] (SpE Rg_check_told) := by
  refine T.F_check_told.ok sc_check_told (fun vs H Q E h => spE_len h len_check_told) (fun cdv A outer s H vs Q E hr h => ?_)
  have hu := hu64 hr
  have hvl : vs.length = 2 := spE_len h len_check_told
  refine ⟨_, (pss_one (ps_for PassesOwn.never rfl (pi_enum (by rfl) T.n_enumerate (pa_cons (pv 0) pa_nil)) (pg_tup rfl (pgs_cons (pg_name (i := 2) sc_check_told.nd rfl (Or.inr rfl)) (pgs_cons (pg_name (i := 3) sc_check_told.nd rfl (Or.inl rfl)) pgs_nil))) (pss_one (ps_if (pt_val (pe_callB (call_allK (K := K) rfl rfl) (by rfl) T.n_all (by decide +kernel) (pa_cons (pe_lc (own := [("row", 4)]) (g := gName 4) (tt := tYes) rfl sc_check_told.nd (pi_listK (K := K) rfl (pv 1)) (blkOk_by (N := N_check_told) (sc := defScope s_check_told) (by decide +kernel)) (fun _ _ _ _ _ => (pg_name (i := 4) sc_check_told.nd rfl (Or.inl rfl))) (fun _ _ _ _ _ => pts_nil) (fun _ _ _ _ _ => (pe_cmpR (op_eqK (K := K) rfl hu) (pe_ix (ix_K (K := K) rfl) (pv 4) (pv 2) (fun _ _ => rfl)) pe_str (nomark _)))) pa_nil))) (pss_one ps_never) pss_nil)))), fn_body h (by rw [hvl]; decide) (fun ds R hR hl => ?_)⟩
  obtain ⟨cs, S, rfl, hc, hS, hSl, q⟩ := hR
  have h12 := hc.le
  refine t_for2 (iv_enumL (ea_c (e_var rfl) ea_nil)) (fun ds i ρ' => ∃ x2 x3 x4 : En, ρ' = [.dat (.lst (cs.map cellD)), .dat (.lst (S.map D.str)), x2, x3, x4]) (fun ds e => ⟨_, _, _, rfl⟩) (fun ds i d ρ' e hd inv => ?_) (fun ds ρ' e inv => q)
  obtain ⟨x2, x3, x4, rfl⟩ := inv
  rw [e] at hd
  obtain ⟨hd1, hd2⟩ := zip_get hd
  obtain ⟨hil, hd1e⟩ := ixs_get' hd1
  obtain ⟨d1, d2⟩ := d
  simp only at hd1 hd2 hd1e
  subst hd1e
  rw [List.length_map] at hil
  obtain ⟨s0, hs0, hs0n⟩ := hS.told i hil
  refine t_if (T := fun b => b = false) ((et_v1 (EV.d1 (e_cb1 (ea_c (EV.o1 ((lc1_map (ds := S) (emb := D.str) (f := fun s => .bl (decide (s.getD i 0 = 46))) (iv_list1 (e_var rfl)) (by omega) fun j s hs => ?_).imp fun e he => ?_)) ea_nil) (cd_all (bs := S.map fun s => decide (s.getD i 0 = 46)))))).is ?_) (fun e => nomatch e) (fun _ => t_next ⟨_, _, _, rfl⟩)
  · have hsl := (hS.row s (List.mem_of_getElem? hs)).1
    refine (e_opd (e_opd (e_var rfl) (e_var rfl) (od_ixS (j := i) rfl (get_of_lt (by omega)) (by omega))) (e_str (s := [46]) (by decide +kernel)) od_eqS).is ?_
    rw [str1]
  · rw [he, List.map_map]; rfl
  · rw [List.all_map]
    cases h : S.all (id ∘ fun s => decide (s.getD i 0 = 46)) with
    | false => rfl
    | true => exact absurd (of_decide_eq_true (List.all_eq_true.mp h s0 hs0)) hs0n

theorem ok_made_rows (T : Txt K mg) (G_over : FnOk P w K mg base CX0 1 T.a_over T.d_over ["newer", "older"] (SpE Rg_over)) (G_blank : FnOk P w K mg base CX0 1 T.a_blank T.d_blank ["many"] (SpE Rg_blank)) : FnOk P w K mg base CX0 2 T.a_made_rows T.d_made_rows ["many", "seeds", "most"] (SpE Rg_made_rows) := by
  refine T.F_made_rows.ok sc_made_rows (fun vs H Q E h => spE_len h len_made_rows) (fun cdv A outer s H vs Q E hr h => ?_)
  have hu := hu64 hr
  have hvl : vs.length = 3 := spE_len h len_made_rows
  refine ⟨_, (pss_cons (ps_set (i := 3) sc_made_rows.nd rfl (Or.inl rfl) (pe_disp (pps_cons (pe_call G_blank (hr.mono (by decide)) (by rfl) T.g_blank T.F_blank.kp (b_blank T) .nil pass0 (pa_cons (pv 0) pa_nil)) pe_bl pps_nil) rfl rfl (by simp) (by decide))) (pss_cons (ps_set (i := 4) sc_made_rows.nd rfl (Or.inl rfl) (pe_lst (pa_cons (pe_call G_blank (hr.mono (by decide)) (by rfl) T.g_blank T.F_blank.kp (b_blank T) .nil pass0 (pa_cons (pv 0) pa_nil)) pa_nil))) (pss_cons (ps_while PassesOwn.never (PW.pt (pw_and (pt_cmpR op_gt (pe_callB (call_lenK (K := K) rfl) (by rfl) T.n_len (by decide +kernel) (pa_cons (pv 4) pa_nil)) pe_int (nomark _)) (pw_and1 (pt_cmpR op_le (pe_callB call_lenDK (by rfl) T.n_len (by decide +kernel) (pa_cons (pv 3) pa_nil)) (pv 2) (nomark _))))) (pss_cons (ps_set (i := 5) sc_made_rows.nd rfl (Or.inl rfl) (pe_lst pa_nil)) (pss_cons (ps_for PassesOwn.never rfl (pi_listK (K := K) rfl (pv 4)) (pg_name (i := 6) sc_made_rows.nd rfl (Or.inl rfl)) (pss_one (ps_for PassesOwn.never rfl (pi_listK (K := K) rfl (pv 1)) (pg_name (i := 7) sc_made_rows.nd rfl (Or.inl rfl)) (pss_cons (ps_set (i := 8) sc_made_rows.nd rfl (Or.inl rfl) (pe_call G_over (hr.mono (by decide)) (by rfl) T.g_over T.F_over.kp (b_over T) .nil pass0 (pa_cons (pv 6) (pa_cons (pv 7) pa_nil)))) (pss_one (ps_if (pt_cmp (pc_dnotin (hu1 hu) (pv 8) (pv 3)) (by rfl)) (pss_cons (ps_dput (hu1 hu) (pv 3) (pv 8) pe_bl rfl) (pss_one (ps_expr (pe_bm PySem.F.plainAttrs_list PySem.F.slot_list_append PySem.F.type_list_append mt_append (pv 5) (pa_cons (pv 8) pa_nil))))) pss_nil)))))) (pss_one (ps_set (i := 4) sc_made_rows.nd rfl (Or.inl rfl) (pv 5)))))) (pss_one (ps_ret (pe_callB (call_sortDK rfl) (by rfl) T.n_sorted (by decide +kernel) (pa_cons (pv 3) pa_nil))))))), fn_body h (by rw [hvl]; decide) (fun ds R hR hl => ?_)⟩
  obtain ⟨S, n, rfl, hSl, hln, hn, hfew, q⟩ := hR
  have hSm : (S.map D.str).length = S.length := List.length_map ..
  have eblank : ∀ (X : XK) (ρ0 : List En), ρ0[0]? = some (.dat (.int (n : Nat))) → ED (tCall (SpE Rg_blank) [] X (tCons (tVar 0) tNil)) ρ0 (· = .str (List.replicate n 46)) := fun X ρ0 h => EV.d1 (e_call0 (Rg := Rg_blank) (R := fun e => e = .dat (.str (List.replicate n 46))) (ea_c (e_var h) ea_nil) ⟨n, rfl, by omega, rfl⟩)
  refine q_asg (P := (· = .dct (kdF [List.replicate n 46]))) (e_disp1 (eblank _ _ rfl) e_bl) fun e he => ?_
  subst he
  refine q_asgo (ds := [.str (List.replicate n 46)]) (e_lst1 (ea_c (eblank _ _ rfl) ea_nil) (by simp)) ?_
  refine t_freeze (i := 4) (ds := [.str (List.replicate n 46)]) rfl ?_
  refine t_seq (M := fun ρ' => ∃ (F : List (List Nat)) (x5 x6 x7 x8 : En), ρ' = [.dat (.int (n : Nat)), .dat (.lst (S.map D.str)), .dat (.int 800), .dct (kdF (F)), .dat (.lst (([] : List (List Nat)).map D.str)), x5, x6, x7, x8] ∧ MdI S n F []) (t_while (fun m ρ' => ∃ (F G : List (List Nat)) (x5 x6 x7 x8 : En), ρ' = [.dat (.int (n : Nat)), .dat (.lst (S.map D.str)), .dat (.int 800), .dct (kdF (F)), .dat (.lst (G.map D.str)), x5, x6, x7, x8] ∧ MdI S n F G ∧ m = 2 * (41 - F.length) + (if G = [] then 0 else 1)) _ ⟨[List.replicate n 46], [List.replicate n 46], .un, .un, .un, .un, rfl, ⟨by simp, fun z hz => by rw [List.mem_singleton.mp hz]; exact .blank, List.mem_singleton.mpr rfl, fun z hz => hz, fun z hz hn => absurd hz hn⟩, rfl⟩ fun m ρ' inv => ?_) fun ρ' m => ?_
  · obtain ⟨F, G, x5, x6, x7, x8, rfl, hI, hm⟩ := inv
    have hFl := hfew F hI.nd hI.clo
    have hGl : (G.map D.str).length = G.length := List.length_map ..
    have hkl : (kdF F).length = F.length := List.length_map ..
    refine ⟨fun b => b = decide (0 < G.length), (et_and1 (c := true) (et_t1 (e_opd (EV.d1 (e_cb1 (ea_c (e_var rfl) ea_nil) cd_lenL)) e_int od_gt)) (fun _ => (et_t1 (e_opd (e_lenD (i := 3) (kd := kdF F) rfl) (e_var rfl) od_le)).is (decide_eq_true (by rw [hkl]; omega)))).is (by rw [hGl, Bool.and_true]; exact decide_eq_decide.mpr (by omega)), fun ht => ?_, fun ht => ?_⟩
    · have hGp : 0 < G.length := of_decide_eq_true ht.symm
      have hGne : G ≠ [] := fun z => by rw [z] at hGp; exact Nat.lt_irrefl _ hGp
      refine q_asgo (e_lst1 ea_nil (by simp)) ?_
      refine t_seq (M := fun ρ' => ∃ (E : List (List Nat)) (x6 x7 x8 : En), ρ' = [.dat (.int (n : Nat)), .dat (.lst (S.map D.str)), .dat (.int 800), .dct (kdF (F ++ E)), .dat (.lst (G.map D.str)), .own (E.map D.str), x6, x7, x8] ∧ (F ++ E).Nodup ∧ (∀ z ∈ E, Clo S n z) ∧ ∀ z ∈ G, ∀ s ∈ S, ov z s ∈ F ++ E)
        (t_for1 (iv_list1 (ds := G.map D.str) (e_var rfl)) (fun ds i ρ' => ∃ (E : List (List Nat)) (x6 x7 x8 : En), ρ' = [.dat (.int (n : Nat)), .dat (.lst (S.map D.str)), .dat (.int 800), .dct (kdF (F ++ E)), .dat (.lst (G.map D.str)), .own (E.map D.str), x6, x7, x8] ∧ (F ++ E).Nodup ∧ (∀ z ∈ E, Clo S n z) ∧ ∀ z ∈ G.take i, ∀ s ∈ S, ov z s ∈ F ++ E) (fun ds e => ⟨[], _, _, _, by rw [List.append_nil]; rfl, by rw [List.append_nil]; exact hI.nd, by simp, by simp⟩) (fun ds i d ρ' e hd inv => ?_) (fun ds ρ' e ⟨E, y6, y7, y8, a, b, c, d⟩ => ⟨E, y6, y7, y8, a, b, c, by rw [e, hGl, List.take_length] at d; exact d⟩)) fun ρ' m2 => ?_
      · obtain ⟨E, x6, x7, x8, rfl, hnd, hcl, hdn⟩ := inv
        rw [e] at hd
        obtain ⟨z, hzi, rfl⟩ := map_get hd
        have hzF := hI.sub z (List.mem_of_getElem? hzi)
        have hzc := hI.clo z hzF
        have hzl := clo_len hln hzc
        refine t_for1 (iv_list1 (ds := S.map D.str) (e_var rfl)) (fun ds k ρ' => ∃ (E : List (List Nat)) (x7 x8 : En), ρ' = [.dat (.int (n : Nat)), .dat (.lst (S.map D.str)), .dat (.int 800), .dct (kdF (F ++ E)), .dat (.lst (G.map D.str)), .own (E.map D.str), .dat (.str z), x7, x8] ∧ (F ++ E).Nodup ∧ (∀ z ∈ E, Clo S n z) ∧ (∀ z ∈ G.take i, ∀ s ∈ S, ov z s ∈ F ++ E) ∧ ∀ s ∈ S.take k, ov z s ∈ F ++ E) (fun ds e => ⟨E, _, _, rfl, hnd, hcl, hdn, by simp⟩) (fun ds k d ρ' e hd inv => ?_) (fun ds ρ' e ⟨E, y7, y8, a, b, c, d, f⟩ => ⟨E, _, y7, y8, a, b, c, fun u hu s hs => ?_⟩)
        · obtain ⟨E, x7, x8, rfl, hnd, hcl, hdn, hin⟩ := inv
          rw [e] at hd
          obtain ⟨s, hsi, rfl⟩ := map_get hd
          have hsm := List.mem_of_getElem? hsi
          have hsl := hln s hsm
          have hnew := clo_ovr hln hzc hsm
          refine q_asg1 (d := .str (ov z s)) (EV.d1 (e_call0 (Rg := Rg_over) (R := fun e => e = .dat (.str (ov z s))) (ea_c (e_var rfl) (ea_c (e_var rfl) ea_nil)) ⟨z, s, rfl, by omega, rfl⟩)) ?_
          have hEl := hfew (F ++ E) hnd fun u hu => (List.mem_append.mp hu).elim (hI.clo u) (hcl u)
          have hstep : ∀ {E' : List (List Nat)}, (∀ u ∈ F ++ E, u ∈ F ++ E') → ov z s ∈ F ++ E' → ∀ u ∈ S.take (k + 1), ov z u ∈ F ++ E' := fun {E'} h1 h2 u hu => by
            rw [List.take_add_one, hsi] at hu
            rcases List.mem_append.mp hu with h | h
            · exact h1 _ (hin u h)
            · rw [show u = s from List.mem_singleton.mp h]; exact h2
          refine t_if (T := fun b => b = !decide (ov z s ∈ F ++ E)) ((et_dnotin (i := 3) (kd := kdF (F ++ E)) rfl (e_var rfl)).is (by congr 1; exact decide_eq_decide.mpr mem_tk)) (fun hb => ?_) (fun hb => ?_)
          · have hno : ov z s ∉ F ++ E := fun h => by rw [decide_eq_true h] at hb; cases hb
            have hnd2 : (F ++ (E ++ [ov z s])).Nodup := by
              rw [← List.append_assoc]
              exact List.nodup_append.mpr ⟨hnd, by simp, fun x hx y hy z' => hno (by rw [← List.mem_singleton.mp hy, ← z']; exact hx)⟩
            have hsub : ∀ u ∈ F ++ E, u ∈ F ++ (E ++ [ov z s]) := fun u hu => by rw [← List.append_assoc]; exact List.mem_append_left _ hu
            refine t_seq (M := fun ρ' => ρ' = [.dat (.int (n : Nat)), .dat (.lst (S.map D.str)), .dat (.int 800), .dct (kdF (F ++ (E ++ [ov z s]))), .dat (.lst (G.map D.str)), .own (E.map D.str), .dat (.str z), .dat (.str s), .dat (.str (ov z s))]) (t_dput (i := 3) (kd := kdF (F ++ E)) (d := .bl true) (s := ov z s) rfl e_bl (e_var rfl) (fun h => hno (mem_tk.mp h)) (by unfold kdF; rw [List.length_map]; omega) (by unfold kdF; rw [← List.append_assoc, List.map_append (l₁ := F ++ E)]; rfl)) fun ρ' m3 => ?_
            subst m3
            refine t_app (i := 5) (ds := E.map D.str) (PD := fun d => d = .str (ov z s)) rfl (e_var rfl) (by rw [List.length_map]; rw [List.length_append] at hEl; omega) fun d hd' => ?_
            subst hd'
            refine ⟨E ++ [ov z s], _, _, by rw [List.map_append (f := D.str)]; rfl, hnd2, fun u hu => ?_, fun u hu s' hs' => hsub _ (hdn u hu s' hs'), hstep hsub (by rw [← List.append_assoc]; exact List.mem_append_right _ (List.mem_singleton.mpr rfl))⟩
            rcases List.mem_append.mp hu with h | h
            · exact hcl u h
            · rw [List.mem_singleton.mp h]; exact hnew
          · have hyes : ov z s ∈ F ++ E := by
              by_cases h : ov z s ∈ F ++ E
              · exact h
              · rw [decide_eq_false h] at hb; cases hb
            exact t_next ⟨E, _, _, rfl, hnd, hcl, hdn, hstep (fun u hu => hu) hyes⟩
        · rw [List.take_add_one, hzi] at hu
          rcases List.mem_append.mp hu with h | h
          · exact d u h s hs
          · rw [show u = z from List.mem_singleton.mp h]
            rw [e, hSm, List.take_length] at f
            exact f s hs
      · obtain ⟨E, x6, x7, x8, rfl, hnd, hcl, hdn⟩ := m2
        refine t_freeze (i := 5) (ds := E.map D.str) rfl ?_
        have hI2 : MdI S n (F ++ E) E := ⟨hnd, fun u hu => (List.mem_append.mp hu).elim (hI.clo u) (hcl u), List.mem_append_left _ hI.bl, fun u hu => List.mem_append_right _ hu, fun u hu hnE s hs => by
          rcases List.mem_append.mp hu with h | h
          · by_cases hg : u ∈ G
            · exact hdn u hg s hs
            · exact List.mem_append_left _ (hI.done u h hg s hs)
          · exact absurd h hnE⟩
        have hEl := hfew (F ++ E) hI2.nd hI2.clo
        refine t_asgd (PD := fun d => d = .lst (E.map D.str)) (e_var rfl) fun d hd => ?_
        subst hd
        refine ⟨2 * (41 - (F ++ E).length) + (if E = [] then 0 else 1), ?_, F ++ E, E, _, _, _, _, rfl, hI2, rfl⟩
        rw [hm, if_neg hGne]
        by_cases hE : E = []
        · rw [if_pos hE, hE, List.append_nil]; omega
        · rw [if_neg hE, List.length_append]
          have := List.length_pos_iff.mpr hE
          rw [List.length_append] at hEl
          omega
    · have hG : G = [] := by
        have h0 : ¬ 0 < G.length := of_decide_eq_false ht.symm
        exact List.eq_nil_of_length_eq_zero (by omega)
      subst hG
      exact ⟨F, x5, x6, x7, x8, rfl, hI⟩
  · obtain ⟨F, x5, x6, x7, x8, rfl, hI⟩ := m
    have hFl := hfew F hI.nd hI.clo
    refine t_ret (P := fun e => ∃ M : List (List Nat), e = .own (M.map D.str) ∧ M.Perm F ∧ M.Pairwise (· < ·)) (e_sortD (i := 3) (F := F) (f := fun _ => .bl true) rfl (by omega) hI.nd) fun e ⟨M, e1, hp, hs⟩ => ?_
    rw [e1]
    refine q M ⟨fun z => ⟨fun hz => hI.clo z (hp.mem_iff.mp hz), fun hz => hp.mem_iff.mpr ?_⟩, hs⟩
    exact clo_right hln hI.bl (fun u hu => clo_len hln (hI.clo u hu)) (fun u hu s hs => hI.done u hu (by simp) s hs) hz

end
end Nt

namespace Nt
open PySem PySem.Spec PyProof.Rows L2


theorem putD_lt {n : Nat} {f : Str} {d : D} : ∀ {fs : List (Str × D)}, fs.length < n → (putD f d fs).length < n + 1
  | [], _ => by show 1 < n + 1; omega
  | (g, x) :: r, h => by
    unfold putD
    split
    · rw [List.length_cons] at h ⊢; omega
    · rw [List.length_cons] at h
      rw [List.length_cons]
      have := putD_lt (f := f) (d := d) (n := n - 1) (fs := r) (by omega)
      omega
/-- the fields of a band -/
def bandF (cs : List (List Nat × Nat)) (S M O : List (List Nat)) : List (Str × D) := [("_cells", .lst (cs.map cellD)), ("_seeds", .lst (S.map D.str)), ("_rows", .lst (M.map D.str)), ("_known", .dic (kdF M)), ("_lots", .lst (O.map D.str))]
structure BandV (cs : List (List Nat × Nat)) (S M O : List (List Nat)) : Prop where
  cel : CelV cs
  sd : SdV cs S
  le : S.length ≤ 30
  rows : IsRows M S cs.length
  few : M.length ≤ 40
  lots : IsOrd O (M.map lotOf)
def bandD (C : Addr) (cs : List (List Nat × Nat)) (S M O : List (List Nat)) : D := .ins C (bandF cs S M O)
def Rg_Band___init (ds : List D) (PF : List (Str × D) → Prop) : Prop := ∃ (cs : List (List Nat × Nat)) (S : List (List Nat)), ds = [.lst (cs.map cellD), .lst (S.map D.str), .int 800] ∧ CelV cs ∧ SdV cs S ∧ S.length ≤ 30 ∧ Few S cs.length ∧ ∀ M O, BandV cs S M O → PF (bandF cs S M O)
def Rg_Band_rows (C : Addr) (ds : List D) (P : En → Prop) : Prop := ∃ (cs : List (List Nat × Nat)) (S M O : List (List Nat)), ds = [bandD C cs S M O] ∧ P (.own (M.map D.str))
def Rg_Band_full_rows (C : Addr) (ds : List D) (P : En → Prop) : Prop := ∃ (cs : List (List Nat × Nat)) (S M O : List (List Nat)), ds = [bandD C cs S M O] ∧ M.length ≤ 40 ∧ P (.own ((M.filter fun z => !decide (46 ∈ z)).map D.str))
def Rg_Band_lots (C : Addr) (ds : List D) (P : En → Prop) : Prop := ∃ (cs : List (List Nat × Nat)) (S M O : List (List Nat)), ds = [bandD C cs S M O] ∧ P (.own (O.map D.str))
def Rg_Band___len (C : Addr) (ds : List D) (P : En → Prop) : Prop := ∃ (cs : List (List Nat × Nat)) (S M O : List (List Nat)), ds = [bandD C cs S M O] ∧ P (.dat (.int (M.length : Nat)))
def Rg_Band___contains (C : Addr) (ds : List D) (P : En → Prop) : Prop := ∃ (cs : List (List Nat × Nat)) (S M O : List (List Nat)) (r : List Nat), ds = [bandD C cs S M O, .str r] ∧ P (.dat (.bl (decide (r ∈ M))))
def Rg_Band_come (C : Addr) (ds : List D) (P : En → Prop) : Prop := ∃ (cs : List (List Nat × Nat)) (S M O : List (List Nat)) (r : List Nat), ds = [bandD C cs S M O, .str r, .non] ∧ CR cs r ∧ S.length ≤ 1000 ∧ Len r.length S ∧ ∀ tk t, FRun S r tk t → Fin S r t → P (.own (linesD cs S r tk t))
theorem len_Band___init (ds P) (h : Rg_Band___init ds P) : ds.length = 3 := by obtain ⟨_, _, rfl, _⟩ := h; rfl
theorem len_Band_rows {C} (ds P) (h : Rg_Band_rows C ds P) : ds.length = 1 := by obtain ⟨_, _, _, _, rfl, _⟩ := h; rfl
theorem len_Band_full_rows {C} (ds P) (h : Rg_Band_full_rows C ds P) : ds.length = 1 := by obtain ⟨_, _, _, _, rfl, _⟩ := h; rfl
theorem len_Band_lots {C} (ds P) (h : Rg_Band_lots C ds P) : ds.length = 1 := by obtain ⟨_, _, _, _, rfl, _⟩ := h; rfl
theorem len_Band___len {C} (ds P) (h : Rg_Band___len C ds P) : ds.length = 1 := by obtain ⟨_, _, _, _, rfl, _⟩ := h; rfl
theorem len_Band___contains {C} (ds P) (h : Rg_Band___contains C ds P) : ds.length = 2 := by obtain ⟨_, _, _, _, _, rfl, _⟩ := h; rfl
theorem len_Band_come {C} (ds P) (h : Rg_Band_come C ds P) : ds.length = 3 := by obtain ⟨_, _, _, _, _, rfl, _⟩ := h; rfl
section
variable {P : Program} {w : World} {K : PySem.W.Frag} {mg : Str → Option Value} {base : Heap}
theorem q_drop {te : TE} {u : TS} {ρ : List En} {p : Ps} {R : En → Prop} (h : EV te ρ R) (k : TT' u ρ p) : TT' (tSeq (tDrop te) u) ρ p := t_seq (M := fun ρ' => TT' u ρ' p) (t_drop h k) fun _ q => q
theorem q_fld {x C : Addr} {fs : List (Str × D)} {f : Str} {te : TE} {u : TS} {ρ : List En} {p : Ps} {d : D} (h : ρ[0]? = some (.inst x C fs)) (c : Cls K C) (n : NoAttr K C f) (hl : fs.length < 1000) (he : ED te ρ (· = d)) (k : TT' u (ρ.set 0 (.inst x C (putD f d fs))) p) : TT' (tSeq (sFld K (tVar 0) te f) u) ρ p :=
  t_seq (M := fun ρ' => TT' u ρ' p) (t_fld h c n hl he fun d' e => by rw [e]; exact k) fun _ q => q
/-- e in d, d data -/
theorem e_dinD {ta tb : TE} {ρ : List En} {s : List Nat} {kd : List (Key × D)} (h1 : ED ta ρ (· = .str s)) (h2 : ED tb ρ (· = .dic kd)) : ED (tDIn ta tb) ρ (· = .bl (decide (tk s ∈ kd.map Prod.fst))) := fun W0 W σ E Q q =>
  h1 W0 W σ E _ fun v1 d1 W1 g1 r1 e1 => h2 W0 W1 σ (E.grow g1) _ fun v2 d2 W2 g2 r2 e2 => by
    subst e1 e2
    cases r1
    cases r2 with
    | dic ha rk =>
      refine ⟨_, _, rfl, DGet.k (k := tk s) (W2.le _ _ ha), ?_⟩
      rw [← valV_any, any_key, rk.keys]
      exact q _ (.bl _) W2 (g1.trans g2) (.bl _) rfl
theorem mem_kdF {s : List Nat} {M : List (List Nat)} : tk s ∈ (kdF M).map Prod.fst ↔ s ∈ M := mem_tk

theorem ok_Band___init (T : Txt K mg) (G_is_number : FnOk P w K mg base CX0 2 T.a_is_number T.d_is_number ["value", "least", "most"] (SpE Rg_is_number)) (G_check_cells : FnOk P w K mg base CX0 4 T.a_check_cells T.d_check_cells ["cells"] (SpE Rg_check_cells)) (G_lot_of : FnOk P w K mg base CX0 1 T.a_lot_of T.d_lot_of ["row"] (SpE Rg_lot_of)) (G_ordered_lots : FnOk P w K mg base CX0 4 T.a_ordered_lots T.d_ordered_lots ["lots"] (SpE Rg_ordered_lots)) (G_check_seeds : FnOk P w K mg base CX0 3 T.a_check_seeds T.d_check_seeds ["cells", "seeds"] (SpE Rg_check_seeds)) (G_check_told : FnOk P w K mg base CX0 3 T.a_check_told T.d_check_told ["cells", "rows"] (SpE Rg_check_told)) (G_made_rows : FnOk P w K mg base CX0 2 T.a_made_rows T.d_made_rows ["many", "seeds", "most"] (SpE Rg_made_rows)) : FnOk P w K mg base CX0 5 T.a_Band___init T.d_Band___init ["self", "cells", "seeds", "most"] (SpI T.a_Band Rg_Band___init) := by
  refine T.F_Band___init.ok sc_Band___init (fun vs H Q E h => spI_len h len_Band___init) (fun cdv A outer s H vs Q E hr h => ?_)
  have hu := hu64 hr
  have hvl : vs.length = 4 := spI_len h len_Band___init
  refine ⟨_, (pss_cons (ps_expr (pe_call G_check_cells (hr.mono (by decide)) (by rfl) T.g_check_cells T.F_check_cells.kp (b_check_cells T) .nil pass0 (pa_cons (pv 1) pa_nil))) (pss_cons (ps_expr (pe_call G_check_seeds (hr.mono (by decide)) (by rfl) T.g_check_seeds T.F_check_seeds.kp (b_check_seeds T) .nil pass0 (pa_cons (pv 1) (pa_cons (pv 2) pa_nil)))) (pss_cons (ps_expr (pe_call G_check_told (hr.mono (by decide)) (by rfl) T.g_check_told T.F_check_told.kp (b_check_told T) .nil pass0 (pa_cons (pv 1) (pa_cons (pv 2) pa_nil)))) (pss_cons (ps_if (pt_not (pt_val (pe_call G_is_number (hr.mono (by decide)) (by rfl) T.g_is_number T.F_is_number.kp (b_is_number T) .nil pass0 (pa_cons (pv 3) (pa_cons pe_int (pa_cons (pe_glob (v := .int 800) rfl T.c_MOST_ROWS ⟨_, rfl⟩) pa_nil)))))) (pss_one ps_never) pss_nil) (pss_cons (ps_set (i := 4) sc_Band___init.nd rfl (Or.inl rfl) (pe_call G_made_rows (hr.mono (by decide)) (by rfl) T.g_made_rows T.F_made_rows.kp (b_made_rows T) .nil pass0 (pa_cons (pe_callB (call_lenK (K := K) rfl) (by rfl) T.n_len (by decide +kernel) (pa_cons (pv 1) pa_nil)) (pa_cons (pv 2) (pa_cons (pv 3) pa_nil))))) (pss_cons (ps_if (pt_cmpR op_gt (pe_callB (call_lenK (K := K) rfl) (by rfl) T.n_len (by decide +kernel) (pa_cons (pv 4) pa_nil)) (pv 3) (nomark _)) (pss_one ps_never) pss_nil) (pss_cons (ps_fld (pv 0) (pe_callTy (call_listK (K := K) rfl) (by rfl) T.n_list (by decide +kernel) (pa_cons (pv 1) pa_nil)) rfl) (pss_cons (ps_fld (pv 0) (pe_callTy (call_listK (K := K) rfl) (by rfl) T.n_list (by decide +kernel) (pa_cons (pv 2) pa_nil)) rfl) (pss_cons (ps_fld (pv 0) (pv 4) rfl) (pss_cons (ps_fld (pv 0) (pe_dc (own := [("row", 5)]) (g := gName 5) (tt := tYes) rfl sc_Band___init.nd (pi_listK (K := K) rfl (pv 4)) (blkOk_by (N := N_Band___init) (sc := defScope s_Band___init) (by decide +kernel)) (fun _ _ _ _ _ => (pg_name (i := 5) sc_Band___init.nd rfl (Or.inl rfl))) (fun _ _ _ _ _ => pts_nil) (fun _ _ _ _ _ => (pv 5)) (fun _ _ _ _ _ => pe_bl)) rfl) (pss_one (ps_fld (pv 0) (pe_call G_ordered_lots (hr.mono (by decide)) (by rfl) T.g_ordered_lots T.F_ordered_lots.kp (b_ordered_lots T) .nil pass0 (pa_cons (pe_lc (own := [("row", 5)]) (g := gName 5) (tt := tYes) rfl sc_Band___init.nd (pi_listK (K := K) rfl (pv 4)) (blkOk_by (N := N_Band___init) (sc := defScope s_Band___init) (by decide +kernel)) (fun _ _ _ _ _ => (pg_name (i := 5) sc_Band___init.nd rfl (Or.inl rfl))) (fun _ _ _ _ _ => pts_nil) (fun _ _ _ _ _ => (pe_call G_lot_of (hr.mono (by decide)) (by rfl) T.g_lot_of T.F_lot_of.kp (b_lot_of T) .nil pass0 (pa_cons (pv 5) pa_nil)))) pa_nil)) rfl)))))))))))), fn_bodyI h (by rw [hvl]; decide) (fun x0 ds R hR hl => ?_)⟩
  obtain ⟨cs, S, rfl, hc, hS, hSl, hfew, q⟩ := hR
  have h12 := hc.le
  have hln : Len cs.length S := fun s hs => (hS.row s hs).1
  have hcl : (cs.map cellD).length = cs.length := List.length_map ..
  refine q_drop (EV.d1 (e_call0 (R := fun e => e = .dat .non) (ea_c (e_var rfl) ea_nil) ⟨cs, rfl, hc, rfl⟩)).ev ?_
  refine q_drop (EV.d1 (e_call0 (R := fun e => e = .dat .non) (ea_c (e_var rfl) (ea_c (e_var rfl) ea_nil)) ⟨cs, S, rfl, hc, hS, hSl, rfl⟩)).ev ?_
  refine q_drop (EV.d1 (e_call0 (R := fun e => e = .dat .non) (ea_c (e_var rfl) (ea_c (e_var rfl) ea_nil)) ⟨cs, S, rfl, hc, hS, hSl, rfl⟩)).ev ?_
  refine q_if1 (b := !true) (et_not1 (et_v1 (EV.d1 (e_call0 (Rg := Rg_is_number) (R := fun e => e = .dat (.bl true)) (ea_c (e_var rfl) (ea_c e_int (ea_c e_int ea_nil))) ⟨_, _, _, rfl, by decide, by decide, rfl⟩)))) (fun e => nomatch e) (fun _ => ?_)
  refine q_asg (P := fun e => ∃ M : List (List Nat), e = .own (M.map D.str) ∧ IsRows M S cs.length) (e_call0 (Rg := Rg_made_rows) (ea_c ((EV.d1 (e_cb1 (ea_c (e_var rfl) ea_nil) cd_lenL)).is (by rw [hcl])) (ea_c (e_var rfl) (ea_c (e_var rfl) ea_nil))) ⟨S, cs.length, rfl, by omega, hln, by omega, hfew, fun M hM => ⟨M, rfl, hM⟩⟩) fun e ⟨M, e1, hM⟩ => ?_
  subst e1
  have hMnd : M.Nodup := hM.2.imp fun {a b} hab e => by subst e; exact List.lt_irrefl _ hab
  have hMl : M.length ≤ 40 := hfew M hMnd fun z hz => (hM.1 z).mp hz
  have hMz : ∀ z ∈ M, z.length = cs.length := fun z hz => clo_len hln ((hM.1 z).mp hz)
  have hMm : (M.map D.str).length = M.length := List.length_map ..
  refine t_freeze (i := 4) (ds := M.map D.str) rfl ?_
  refine q_if1 (b := false) ((et_t1 (e_opd (EV.d1 (e_cb1 (ea_c (e_var rfl) ea_nil) cd_lenL)) (e_var rfl) od_gt)).is (decide_eq_false (by rw [hMm]; omega))) (fun e => nomatch e) (fun _ => ?_)
  refine q_fld (d := .lst (cs.map cellD)) rfl T.cl_Band T.na_Band_cells (by simp) (EV.o1 (e_cb1 (ea_c (e_var rfl) ea_nil) cd_list)) ?_
  refine q_fld (d := .lst (S.map D.str)) rfl T.cl_Band T.na_Band_seeds (Nat.lt_of_lt_of_le (putD_lt (show ([] : List (Str × D)).length < 1 by simp)) (by decide)) (EV.o1 (e_cb1 (ea_c (e_var rfl) ea_nil) cd_list)) ?_
  refine q_fld (d := .lst (M.map D.str)) rfl T.cl_Band T.na_Band_rows (Nat.lt_of_lt_of_le (putD_lt (putD_lt (show ([] : List (Str × D)).length < 1 by simp))) (by decide)) (e_var rfl) ?_
  refine q_fld (d := .dic (kdF M)) rfl T.cl_Band T.na_Band_known (Nat.lt_of_lt_of_le (putD_lt (putD_lt (putD_lt (show ([] : List (Str × D)).length < 1 by simp)))) (by decide)) ((e_dcomp (F := M) (f := fun _ => .bl true) (iv_list1 (e_var rfl)) (by omega) hMnd (fun i s hs => e_var rfl) (fun i s hs => e_bl)).ed fun e he => ⟨_, by rw [he]; rfl, rfl⟩) ?_
  refine t_fld (PD := fun d => ∃ O : List (List Nat), d = .lst (O.map D.str) ∧ IsOrd O (M.map lotOf)) rfl T.cl_Band T.na_Band_lots (Nat.lt_of_lt_of_le (putD_lt (putD_lt (putD_lt (putD_lt (show ([] : List (Str × D)).length < 1 by simp))))) (by decide)) (EV.ed (R := fun e => ∃ O : List (List Nat), e = .own (O.map D.str) ∧ IsOrd O (M.map lotOf)) (e_call0 (Rg := Rg_ordered_lots) (ea_c (EV.o1 ((lc1_map (ds := M) (emb := D.str) (f := fun r => D.str (lotOf r)) (iv_list1 (e_var rfl)) (by omega) fun i r hr => EV.d1 (e_call0 (Rg := Rg_lot_of) (R := fun e => e = .dat (.str (lotOf r))) (ea_c (e_var rfl) ea_nil) ⟨r, rfl, by rw [hMz r (List.mem_of_getElem? hr)]; omega, rfl⟩)).imp (R' := fun e => e = .own ((M.map lotOf).map D.str)) fun e he => by rw [he, List.map_map]; rfl)) ea_nil) ⟨_, M.map lotOf, rfl, .lst _, by rw [List.length_map]; omega, fun z hz => ?_, fun O hO => ⟨O, rfl, hO⟩⟩) fun e ⟨O, e1, hO⟩ => ⟨_, by rw [e1]; rfl, O, rfl, hO⟩) fun d ⟨O, e1, hO⟩ => ?_
  · obtain ⟨r, hr, rfl⟩ := List.mem_map.mp hz
    rw [lotOf_len, hMz r hr]; omega
  · subst e1
    exact ⟨bandF cs S M O, rfl, q M O ⟨hc, hS, hSl, hM, hMl, hO⟩⟩

theorem ok_Band_rows (T : Txt K mg)  : FnOk P w K mg base CX0 1 T.a_Band_rows T.d_Band_rows ["self"] (SpE (Rg_Band_rows T.a_Band)) := by
  refine T.F_Band_rows.ok sc_Band_rows (fun vs H Q E h => spE_len h len_Band_rows) (fun cdv A outer s H vs Q E hr h => ?_)
  have hu := hu64 hr
  have hvl : vs.length = 1 := spE_len h len_Band_rows
  refine ⟨_, (pss_one (ps_ret (pe_callTy (call_listK (K := K) rfl) (by rfl) T.n_list (by decide +kernel) (pa_cons (pe_fld (pv 0) rfl) pa_nil)))), fn_body h (by rw [hvl]; decide) (fun ds R hR hl => ?_)⟩
  obtain ⟨cs, S, M, O, rfl, q⟩ := hR
  exact t_ret (P := (· = .own (M.map D.str))) (e_cb1 (ea_c (e_fld (e_var rfl) T.cl_Band T.na_Band_rows (by rfl)) ea_nil) cd_list) fun e he => by rw [he]; exact q

theorem ok_Band_lots (T : Txt K mg)  : FnOk P w K mg base CX0 1 T.a_Band_lots T.d_Band_lots ["self"] (SpE (Rg_Band_lots T.a_Band)) := by
  refine T.F_Band_lots.ok sc_Band_lots (fun vs H Q E h => spE_len h len_Band_lots) (fun cdv A outer s H vs Q E hr h => ?_)
  have hu := hu64 hr
  have hvl : vs.length = 1 := spE_len h len_Band_lots
  refine ⟨_, (pss_one (ps_ret (pe_callTy (call_listK (K := K) rfl) (by rfl) T.n_list (by decide +kernel) (pa_cons (pe_fld (pv 0) rfl) pa_nil)))), fn_body h (by rw [hvl]; decide) (fun ds R hR hl => ?_)⟩
  obtain ⟨cs, S, M, O, rfl, q⟩ := hR
  exact t_ret (P := (· = .own (O.map D.str))) (e_cb1 (ea_c (e_fld (e_var rfl) T.cl_Band T.na_Band_lots (by rfl)) ea_nil) cd_list) fun e he => by rw [he]; exact q

theorem ok_Band_full_rows (T : Txt K mg)  : FnOk P w K mg base CX0 1 T.a_Band_full_rows T.d_Band_full_rows ["self"] (SpE (Rg_Band_full_rows T.a_Band)) := by
  refine T.F_Band_full_rows.ok sc_Band_full_rows (fun vs H Q E h => spE_len h len_Band_full_rows) (fun cdv A outer s H vs Q E hr h => ?_)
  have hu := hu64 hr
  have hvl : vs.length = 1 := spE_len h len_Band_full_rows
  refine ⟨_, (pss_one (ps_ret (pe_lc (own := [("row", 1)]) (g := gName 1) (tt := _) rfl sc_Band_full_rows.nd (pi_listK (K := K) rfl (pe_fld (pv 0) rfl)) (blkOk_by (N := N_Band_full_rows) (sc := defScope s_Band_full_rows) (by decide +kernel)) (fun _ _ _ _ _ => (pg_name (i := 1) sc_Band_full_rows.nd rfl (Or.inl rfl))) (fun _ _ _ _ _ => (pts_one (pt_cmpR (op_notInK (K := K) rfl) pe_str (pv 1) (by rfl)))) (fun _ _ _ _ _ => (pv 1))))), fn_body h (by rw [hvl]; decide) (fun ds R hR hl => ?_)⟩
  obtain ⟨cs, S, M, O, rfl, hl, q⟩ := hR
  exact t_ret (P := (· = .own ((M.filter fun z => !decide (46 ∈ z)).map D.str))) (lc1_filt (ds := M) (t := fun z => !decide (46 ∈ z)) (emb := D.str) (f := D.str) (iv_list1 (e_fld (e_var rfl) T.cl_Band T.na_Band_rows (by rfl))) (by omega) (fun i z hz => et_t1 (e_opd (e_str (s := [46]) (by decide +kernel)) (e_var rfl) (od_sgn (neg := true)))) fun i z hz _ => e_var rfl) fun e he => by rw [he]; exact q

theorem ok_Band___len (T : Txt K mg)  : FnOk P w K mg base CX0 1 T.a_Band___len T.d_Band___len ["self"] (SpE (Rg_Band___len T.a_Band)) := by
  refine T.F_Band___len.ok sc_Band___len (fun vs H Q E h => spE_len h len_Band___len) (fun cdv A outer s H vs Q E hr h => ?_)
  have hu := hu64 hr
  have hvl : vs.length = 1 := spE_len h len_Band___len
  refine ⟨_, (pss_one (ps_ret (pe_callB (call_lenK (K := K) rfl) (by rfl) T.n_len (by decide +kernel) (pa_cons (pe_fld (pv 0) rfl) pa_nil)))), fn_body h (by rw [hvl]; decide) (fun ds R hR hl => ?_)⟩
  obtain ⟨cs, S, M, O, rfl, q⟩ := hR
  exact t_ret1 ((EV.d1 (e_cb1 (ea_c (e_fld (e_var rfl) T.cl_Band T.na_Band_rows (by rfl)) ea_nil) cd_lenL)).is (by rw [List.length_map])) q

theorem ok_Band___contains (T : Txt K mg)  : FnOk P w K mg base CX0 1 T.a_Band___contains T.d_Band___contains ["self", "x"] (SpE (Rg_Band___contains T.a_Band)) := by
  refine T.F_Band___contains.ok sc_Band___contains (fun vs H Q E h => spE_len h len_Band___contains) (fun cdv A outer s H vs Q E hr h => ?_)
  have hu := hu64 hr
  have hvl : vs.length = 2 := spE_len h len_Band___contains
  refine ⟨_, (pss_one (ps_ret (pe_and (pe_callB (call_isiK1 (K := K) rfl) (by rfl) T.n_isinstance (by decide +kernel) (pa_cons (pv 1) (pa_cons (pe_bltn (v := .ty "str") (by rfl) T.n_str (by decide +kernel) rfl) pa_nil))) (pe_one (pe_cmp (pc_din (hu1 hu) (pv 1) (pe_fld (pv 0) rfl)) (by rfl)))))), fn_body h (by rw [hvl]; decide) (fun ds R hR hl => ?_)⟩
  obtain ⟨cs, S, M, O, r, rfl, q⟩ := hR
  have tS : kitB (D.str r).ty "str" = some ((D.str r).isU "str") := kitU rfl (by simp)
  exact t_ret1 ((e_and (a := true) (c := decide (r ∈ M)) (e_isi (b := true) (e_var rfl) rfl tS) (fun _ => (e_dinD (e_var rfl) (e_fld (e_var rfl) T.cl_Band T.na_Band_known (by rfl))).is (by congr 1; exact decide_eq_decide.mpr mem_kdF))).is rfl) q

theorem ok_Band_come (T : Txt K mg) (G_come : FnOk P w K mg base CX0 6 T.a_come T.d_come ["cells", "seeds", "row"] (SpE Rg_come)) : FnOk P w K mg base CX0 7 T.a_Band_come T.d_Band_come ["self", "row", "seeds"] (SpE (Rg_Band_come T.a_Band)) := by
  refine T.F_Band_come.ok sc_Band_come (fun vs H Q E h => spE_len h len_Band_come) (fun cdv A outer s H vs Q E hr h => ?_)
  have hu := hu64 hr
  have hvl : vs.length = 3 := spE_len h len_Band_come
  refine ⟨_, (pss_one (ps_ret (pe_call G_come (hr.mono (by decide)) (by rfl) T.g_come_coming T.F_come.kp (b_come T) .nil pass0 (pa_cons (pe_fld (pv 0) rfl) (pa_cons (pe_ifExp (pt_cmpR op_isNU (pv 2) pe_non (nomark _)) (pe_fld (pv 0) rfl) (pv 2)) (pa_cons (pv 1) pa_nil)))))), fn_body h (by rw [hvl]; decide) (fun ds R hR hl => ?_)⟩
  obtain ⟨cs, S, M, O, r, rfl, h1, h2, h3, q⟩ := hR
  exact t_ret (P := R) (e_call0 (Rg := Rg_come) (ea_c (e_fld (e_var rfl) T.cl_Band T.na_Band_cells (by rfl)) (ea_c (e_ifd (P := fun d => d = .lst (S.map D.str)) (T := fun b => b = true) (et_t1 (e_opd (e_var rfl) e_non od_isN)) (fun _ => e_fld (e_var rfl) T.cl_Band T.na_Band_seeds (by rfl)) (fun e => nomatch e)) (ea_c (e_var rfl) ea_nil))) ⟨_, _, cs, S, r, rfl, .lst _, .lst _, h1, h2, h3, q⟩) fun e he => he

end
end Nt

namespace Nt
open PySem PySem.Spec PyProof.Rows L2


/-! ### all fillings -/
def sgns (m : Nat) : List Nat := 46 :: [48, 49, 50, 51].take m
def fillF (F : List (List Nat)) (m : Nat) : List (List Nat) := F.flatMap fun a => (sgns m).map fun c => a ++ [c]
def fillL (cs : List (List Nat × Nat)) : List (List Nat) := cs.foldl (fun F c => fillF F c.2) [[]]
theorem fillL_snoc (cs : List (List Nat × Nat)) (c : List Nat × Nat) : fillL (cs ++ [c]) = fillF (fillL cs) c.2 := by
  unfold fillL; rw [List.foldl_append]; rfl
theorem mem_sgns {c m : Nat} (hm : m ≤ 4) : c ∈ sgns m ↔ c = 46 ∨ (48 ≤ c ∧ c < 48 + m) := by
  unfold sgns; rw [List.mem_cons, mem_digits hm]
theorem sgns_len (m : Nat) : (sgns m).length ≤ 5 := by
  unfold sgns; rw [List.length_cons, List.length_take]; simp; omega
theorem mem_fillF {F : List (List Nat)} {m : Nat} {z : List Nat} : z ∈ fillF F m ↔ ∃ a ∈ F, ∃ c ∈ sgns m, z = a ++ [c] := by
  unfold fillF
  simp only [List.mem_flatMap, List.mem_map]
  constructor
  · rintro ⟨a, ha, c, hc, rfl⟩; exact ⟨a, ha, c, hc, rfl⟩
  · rintro ⟨a, ha, c, hc, rfl⟩; exact ⟨a, ha, c, hc, rfl⟩
theorem fillF_len (F : List (List Nat)) (m : Nat) : (fillF F m).length ≤ 5 * F.length := by
  unfold fillF
  induction F with
  | nil => simp
  | cons a F ih =>
    rw [List.flatMap_cons, List.length_append, List.length_map, List.length_cons]
    have := sgns_len m
    omega
/-- all fillings: the rows, ordered, few -/
structure FillOk (cs : List (List Nat × Nat)) : Prop where
  mem : ∀ z, z ∈ fillL cs ↔ RowV cs z
  lt : (fillL cs).Pairwise (· < ·)
  len : (fillL cs).length ≤ 5 ^ cs.length
theorem rowV_snocE {cs : List (List Nat × Nat)} {c : List Nat × Nat} {z : List Nat} (hm : c.2 ≤ 4) : RowV (cs ++ [c]) z ↔ ∃ a, RowV cs a ∧ ∃ d ∈ sgns c.2, z = a ++ [d] := by
  constructor
  · intro h
    have hl : z.length = cs.length + 1 := by rw [h.1]; simp
    have hg : z[cs.length]? = some z[cs.length] := List.getElem?_eq_getElem (by omega)
    refine ⟨z.take cs.length, ⟨by rw [List.length_take]; omega, fun i x m hi hc => ?_⟩, z[cs.length], (mem_sgns hm).mpr (h.2 cs.length _ c hg (by simp)), ?_⟩
    · have hil := (List.getElem?_eq_some_iff.mp hc).1
      rw [List.getElem?_take_of_lt hil] at hi
      exact h.2 i x m hi (by rw [List.getElem?_append_left hil]; exact hc)
    · have := List.take_add_one (l := z) (i := cs.length)
      rw [hg, ← hl, List.take_length] at this
      exact this
  · rintro ⟨a, ha, d, hd, rfl⟩
    refine ⟨by simp [ha.1], fun i x m hi hc => ?_⟩
    have hal := ha.1
    by_cases hil : i < cs.length
    · rw [List.getElem?_append_left (by omega)] at hi
      rw [List.getElem?_append_left hil] at hc
      exact ha.2 i x m hi hc
    · have h1 := (List.getElem?_eq_some_iff.mp hi).1
      rw [List.length_append, List.length_singleton] at h1
      have e : i = cs.length := by omega
      subst e
      rw [List.getElem?_append_right (by omega)] at hi hc
      rw [hal] at hi
      simp only [Nat.sub_self, List.getElem?_cons_zero, Option.some.injEq] at hi hc
      subst hi hc
      exact (mem_sgns hm).mp hd
theorem lt_app_l {a b x y : List Nat} (h : a.length = b.length) (l : a < b) : a ++ x < b ++ y := by
  induction a generalizing b with
  | nil => cases b with
    | nil => exact absurd l (List.lt_irrefl _)
    | cons => cases h
  | cons c a ih => cases b with
    | nil => cases h
    | cons d b =>
      rw [List.cons_append, List.cons_append]
      rw [List.cons_lt_cons_iff] at l ⊢
      rcases l with l | ⟨e, l⟩
      · exact .inl l
      · exact .inr ⟨e, ih (by simpa using h) l⟩
theorem lt_app_r {a x y : List Nat} (l : x < y) : a ++ x < a ++ y := by
  induction a with
  | nil => exact l
  | cons c a ih => rw [List.cons_append, List.cons_append, List.cons_lt_cons_iff]; exact .inr ⟨rfl, ih⟩
theorem sgns_lt {m : Nat} (hm : m ≤ 4) : (sgns m).Pairwise (· < ·) := by
  have : ∀ m : _root_.Fin 5, (sgns m.1).Pairwise (· < ·) := by decide
  exact this ⟨m, by omega⟩
theorem fillF_lt {F : List (List Nat)} {m n : Nat} (hm : m ≤ 4) (hn : ∀ z ∈ F, z.length = n) (h : F.Pairwise (· < ·)) : (fillF F m).Pairwise (· < ·) := by
  unfold fillF
  induction F with
  | nil => exact .nil
  | cons a F ih =>
    rw [List.pairwise_cons] at h
    rw [List.flatMap_cons, List.pairwise_append]
    refine ⟨?_, ih (fun z hz => hn z (List.mem_cons_of_mem _ hz)) h.2, fun x hx y hy => ?_⟩
    · rw [List.pairwise_map]
      refine (sgns_lt hm).imp fun {c d} hcd => lt_app_r ?_
      rw [List.cons_lt_cons_iff]; exact .inl hcd
    · obtain ⟨c, _, rfl⟩ := List.mem_map.mp hx
      obtain ⟨b, hb, hy⟩ := List.mem_flatMap.mp hy
      obtain ⟨d, _, rfl⟩ := List.mem_map.mp hy
      exact lt_app_l (by rw [hn a List.mem_cons_self, hn b (List.mem_cons_of_mem _ hb)]) (h.1 b hb)
theorem fill_ok : ∀ {n : Nat} {cs : List (List Nat × Nat)}, cs.length = n → (∀ c ∈ cs, c.2 ≤ 4) → FillOk cs
  | 0, cs, hl, _ => by
    have : cs = [] := List.eq_nil_of_length_eq_zero hl
    subst this
    refine ⟨fun z => ?_, by simp [fillL], by simp [fillL]⟩
    constructor
    · intro h
      rw [List.mem_singleton.mp h]
      exact ⟨rfl, fun i c m h => by simp at h⟩
    · intro h
      rw [List.eq_nil_of_length_eq_zero h.1]; exact List.mem_singleton.mpr rfl
  | n + 1, cs, hl, hc => by
    have hne : cs ≠ [] := fun z => by rw [z] at hl; cases hl
    have e := List.dropLast_concat_getLast hne
    generalize cs.dropLast = xs at e
    generalize cs.getLast hne = c at e
    subst e
    have hxl : xs.length = n := by simpa using hl
    have ih := fill_ok hxl fun d hd => hc d (List.mem_append_left _ hd)
    have hm := hc c (List.mem_append_right _ (List.mem_singleton.mpr rfl))
    refine ⟨fun z => ?_, ?_, ?_⟩
    · rw [fillL_snoc, mem_fillF, rowV_snocE hm]
      constructor
      · rintro ⟨a, ha, q⟩; exact ⟨a, (ih.mem a).mp ha, q⟩
      · rintro ⟨a, ha, q⟩; exact ⟨a, (ih.mem a).mpr ha, q⟩
    · rw [fillL_snoc]
      exact fillF_lt hm (fun z hz => ((ih.mem z).mp hz).1) ih.lt
    · rw [fillL_snoc, List.length_append, List.length_singleton, Nat.pow_succ]
      have := fillF_len (fillL xs) c.2
      have := ih.len
      omega
/-! ### a full row that the seeds make -/
theorem told_full {cs : List (List Nat × Nat)} {S : List (List Nat)} (h : ∀ s ∈ S, RowV cs s) (n : Told S cs.length) : ∃ z, Clo S cs.length z ∧ 46 ∉ z := by
  have key : ∀ T : List (List Nat), (∀ s ∈ T, s ∈ S) → ∃ z, Clo S cs.length z ∧ z.length = cs.length ∧ ∀ i, i < cs.length → (∃ s ∈ T, s.getD i 0 ≠ 46) → z.getD i 0 ≠ 46 := fun T => by
    induction T with
    | nil => exact fun _ => ⟨_, .blank, List.length_replicate, fun i _ ⟨s, hs, _⟩ => nomatch hs⟩
    | cons s T ih =>
      intro hT
      obtain ⟨z, hz, hl, hk⟩ := ih fun t ht => hT t (List.mem_cons_of_mem _ ht)
      have hsl := (h s (hT s List.mem_cons_self)).1
      refine ⟨ov s z, .step (hT s List.mem_cons_self) hz, by rw [ov_len]; omega, fun i hi ⟨t, ht, hn⟩ => ?_⟩
      have e := ov_get (get_of_lt (l := s) (i := i) (by omega)) (get_of_lt (l := z) (i := i) (by omega))
      rw [getD_of e]
      by_cases h1 : s.getD i 0 = 46
      · rw [if_pos h1]
        rcases List.mem_cons.mp ht with q | q
        · subst q; exact absurd h1 hn
        · exact hk i hi ⟨t, q, hn⟩
      · rw [if_neg h1]; exact h1
  obtain ⟨z, hz, hl, hk⟩ := key S fun s hs => hs
  refine ⟨z, hz, fun hm => ?_⟩
  obtain ⟨i, hi, e⟩ := List.mem_iff_getElem.mp hm
  have := hk i (by omega) (n i (by omega))
  rw [getD_of (List.getElem?_eq_getElem hi), e] at this
  exact this rfl
def Rg_law_fillings (ds : List D) (P : En → Prop) : Prop := ∃ cs : List (List Nat × Nat), ds = [.lst (cs.map cellD)] ∧ CsV cs ∧ cs.length ≤ 6 ∧ P (.dat (.lst ((fillL cs).map D.str)))
theorem len_law_fillings (ds P) (h : Rg_law_fillings ds P) : ds.length = 1 := by obtain ⟨_, rfl, _⟩ := h; rfl
def Rg_law_paper_so (C : Addr) (ds : List D) (P : En → Prop) : Prop := ∃ (cs : List (List Nat × Nat)) (S M O : List (List Nat)) (r : List Nat), ds = [bandD C cs S M O, .lst (cs.map cellD), .lst (S.map D.str), .str r, .bl (decide (r ∈ M))] ∧ BandV cs S M O ∧ RowV cs r ∧ P (.dat (.bl true))
theorem len_law_paper_so {C} (ds P) (h : Rg_law_paper_so C ds P) : ds.length = 5 := by obtain ⟨_, _, _, _, _, rfl, _⟩ := h; rfl
theorem sm_lst {n : Nat} {L : List D} (h : ∀ d ∈ L, d.sm n = true) (hl : L.length ≤ 100000) : (D.lst L).sm (n + 1) = true := by
  show (L.all (D.sm n) && decide (L.length ≤ 100000)) = true
  rw [List.all_eq_true.mpr h, decide_eq_true hl]; rfl
theorem sm_bl (n : Nat) (b : Bool) : (D.bl b).sm n = true := by cases n <;> rfl
theorem nmW_V {s : List Nat} (h : NmW s) : NmV s := ⟨h.2.1, fun c hc => by have := h.2.2 c hc; omega⟩
section
variable {P : Program} {w : World} {K : PySem.W.Frag} {mg : Str → Option Value} {base : Heap}
theorem ix_end {ds : List D} {n : Int} {d : D} (e : n = (ds.length : Int) - 1) (hd : ds[ds.length - 1]? = some d) : OD (rIx K) (.lst ds) (.int n) (· = .dat d) :=
  od_ixL (j := ds.length - 1) (by
    have := (List.getElem?_eq_some_iff.mp hd).1
    omega) hd

theorem ok_law_fillings (T : Txt K mg)  : FnOk P w K mg base CX0 1 T.a_law_fillings T.d_law_fillings ["_law_frame_here"] (SpE Rg_law_fillings) := by
  refine T.F_law_fillings.ok sc_law_fillings (fun vs H Q E h => spE_len h len_law_fillings) (fun cdv A outer s H vs Q E hr h => ?_)
  have hu := hu64 hr
  have hvl : vs.length = 1 := spE_len h len_law_fillings
  refine ⟨_, (pss_cons (ps_set (i := 1) sc_law_fillings.nd rfl (Or.inl rfl) (pe_lst (pa_cons pe_str pa_nil))) (pss_cons (ps_for PassesOwn.never rfl (pi_listK (K := K) rfl (pv 0)) (pg_name (i := 2) sc_law_fillings.nd rfl (Or.inl rfl)) (pss_cons (ps_set (i := 3) sc_law_fillings.nd rfl (Or.inl rfl) (pe_op op_plus (pe_lst (pa_cons pe_str pa_nil)) (pe_callTy (call_listT rfl) (by rfl) T.n_list (by decide +kernel) (pa_cons (pe_slice (sl_K (K := K) rfl) pe_str po_none (po_some (pe_ix (ix_K (K := K) rfl) (pv 2) pe_int (fun _ _ => rfl)))) pa_nil)))) (pss_cons (ps_set (i := 4) sc_law_fillings.nd rfl (Or.inl rfl) (pe_lst pa_nil)) (pss_cons (ps_for PassesOwn.never rfl (pi_listK (K := K) rfl (pv 1)) (pg_name (i := 5) sc_law_fillings.nd rfl (Or.inr rfl)) (pss_one (ps_expr (pe_bm PySem.F.plainAttrs_list PySem.F.slot_list_extend PySem.F.type_list_extend mt_extend (pv 4) (pa_cons (pe_lc (own := [("_law_sign", 6)]) (g := gName 6) (tt := tYes) rfl sc_law_fillings.nd (pi_listK (K := K) rfl (pv 3)) (blkOk_by (N := N_law_fillings) (sc := defScope s_law_fillings) (by decide +kernel)) (fun _ _ _ _ _ => (pg_name (i := 6) sc_law_fillings.nd rfl (Or.inl rfl))) (fun _ _ _ _ _ => pts_nil) (fun _ _ _ _ _ => (pe_op op_plus (pv 5) (pv 6)))) pa_nil))))) (pss_one (ps_set (i := 1) sc_law_fillings.nd rfl (Or.inl rfl) (pv 4))))))) (pss_one (ps_ret (pv 1))))), fn_body h (by rw [hvl]; decide) (fun ds R hR hl => ?_)⟩
  obtain ⟨cs, rfl, hcs, h6, q⟩ := hR
  refine q_asgo (e_lst1 (ds := [D.str []]) (ea_c (e_str (s := []) (by decide +kernel)) ea_nil) (by simp)) ?_
  refine t_freeze (i := 1) (ds := [D.str []]) rfl ?_
  have hok : ∀ i, FillOk (cs.take i) := fun i => fill_ok rfl fun c hc => (hcs.2 c (List.mem_of_mem_take hc)).2
  have hcl : ∀ i, (fillL (cs.take i)).length ≤ 15625 := fun i => by
    have h1 := (hok i).len
    have h2 : 5 ^ (cs.take i).length ≤ 5 ^ 6 := Nat.pow_le_pow_right (by decide) (by rw [List.length_take]; omega)
    have h3 : 5 ^ 6 = 15625 := by decide
    omega
  refine t_seq (M := fun ρ' => ∃ x2 x3 x4 x5 : En, ρ' = [.dat (.lst (cs.map cellD)), .dat (.lst ((fillL cs).map D.str)), x2, x3, x4, x5, .un]) (t_for1 (iv_list1 (ds := cs.map cellD) (e_var rfl)) (fun ds i ρ' => ∃ x2 x3 x4 x5 : En, ρ' = [.dat (.lst (cs.map cellD)), .dat (.lst ((fillL (cs.take i)).map D.str)), x2, x3, x4, x5, .un]) (fun ds e => ⟨_, _, _, _, rfl⟩) (fun ds i d ρ' e hd inv => ?_) (fun ds ρ' e ⟨x2, x3, x4, x5, h⟩ => ⟨x2, x3, x4, x5, by rw [h, e, List.length_map, List.take_length]⟩)) fun ρ' m => ?_
  · obtain ⟨x2, x3, x4, x5, rfl⟩ := inv
    rw [e] at hd
    obtain ⟨c, hci, rfl⟩ := map_get hd
    have hc := hcs.2 c (List.mem_of_getElem? hci)
    have hcut : cutN [48, 49, 50, 51] none (some ((c.2 : Nat) : Int)) = [48, 49, 50, 51].take c.2 := cut_to rfl (by simp; omega)
    refine q_asgo (ds := (sgns c.2).map fun x => D.str [x]) (e_op1 (x := .lst [D.str [46]]) (y := .lst (([48, 49, 50, 51].take c.2).map fun x => D.str [x])) (EV.o1 (e_lst1 (ds := [D.str [46]]) (ea_c (e_str (s := [46]) (by decide +kernel)) ea_nil) (by simp))) (EV.o1 (e_cb1 (ea_c ((EV.d1 (e_sl (e_str (s := [48, 49, 50, 51]) (by decide +kernel)) eo_none (eo_part (e_opd (e_var (d := cellD c) rfl) e_int (od_ixT (j := 1) rfl rfl))) (sd_str (by decide)))).is (y := .str ([48, 49, 50, 51].take c.2)) (by rw [hcut])) ea_nil) (cd_listT1 (by rw [List.length_take]; simp; omega)))) (od_addL (by rw [List.length_map, List.length_take]; simp; omega))) ?_
    refine t_freeze (i := 3) (ds := (sgns c.2).map fun x => D.str [x]) rfl ?_
    refine q_asgo (ds := []) (e_lst1 ea_nil (by simp)) ?_
    have hF := hcl i
    have hg := sgns_len c.2
    have hFm : ((fillL (cs.take i)).map D.str).length = (fillL (cs.take i)).length := List.length_map ..
    refine t_seq (M := fun ρ' => ∃ x5 : En, ρ' = [.dat (.lst (cs.map cellD)), .dat (.lst ((fillL (cs.take i)).map D.str)), .dat (cellD c), .dat (.lst ((sgns c.2).map fun x => D.str [x])), .own ((fillF (fillL (cs.take i)) c.2).map D.str), x5, .un]) (t_for1 (iv_list1 (ds := (fillL (cs.take i)).map D.str) (e_var rfl)) (fun ds j ρ' => ∃ x5 : En, ρ' = [.dat (.lst (cs.map cellD)), .dat (.lst ((fillL (cs.take i)).map D.str)), .dat (cellD c), .dat (.lst ((sgns c.2).map fun x => D.str [x])), .own ((fillF ((fillL (cs.take i)).take j) c.2).map D.str), x5, .un]) (fun ds e => ⟨_, rfl⟩) (fun ds j d ρ' e hd inv => ?_) (fun ds ρ' e ⟨x5, h⟩ => ⟨x5, by rw [h, e, hFm, List.take_length]⟩)) fun ρ' m => ?_
    · obtain ⟨x5, rfl⟩ := inv
      rw [e] at hd
      obtain ⟨a, haj, rfl⟩ := map_get hd
      have haR := ((hok i).mem a).mp (List.mem_of_getElem? haj)
      have hal : a.length ≤ 6 := by rw [haR.1, List.length_take]; omega
      have hfl := fillF_len ((fillL (cs.take i)).take j) c.2
      have htl : ((fillL (cs.take i)).take j).length ≤ (fillL (cs.take i)).length := by rw [List.length_take]; omega
      refine t_ext (i := 4) (ds := (fillF ((fillL (cs.take i)).take j) c.2).map D.str) (es := (sgns c.2).map fun x => D.str (a ++ [x])) rfl (lc1_map (ds := sgns c.2) (emb := fun x => D.str [x]) (f := fun x => D.str (a ++ [x])) (iv_list1 (e_var rfl)) (by omega) fun k x hx => e_opd (e_var rfl) (e_var rfl) (od_addS (by simp; omega))) (by rw [List.length_map, List.length_map]; omega) ⟨.dat (.str a), ?_⟩
      have e2 : (fillF ((fillL (cs.take i)).take (j + 1)) c.2).map D.str = (fillF ((fillL (cs.take i)).take j) c.2).map D.str ++ (sgns c.2).map fun x => D.str (a ++ [x]) := by
        unfold fillF
        rw [take_step haj, List.flatMap_append, List.map_append, List.flatMap_cons, List.flatMap_nil, List.append_nil, List.map_map]
        rfl
      rw [e2]
      rfl
    · obtain ⟨x5, rfl⟩ := m
      refine t_freeze (i := 4) (ds := (fillF (fillL (cs.take i)) c.2).map D.str) rfl ?_
      refine t_asgd (PD := fun d => d = .lst ((fillF (fillL (cs.take i)) c.2).map D.str)) (e_var rfl) fun d hd => ?_
      subst hd
      refine ⟨.dat (cellD c), .dat (.lst ((sgns c.2).map fun x => D.str [x])), .dat (.lst ((fillF (fillL (cs.take i)) c.2).map D.str)), x5, ?_⟩
      rw [take_step hci, fillL_snoc]
      rfl
  · obtain ⟨x2, x3, x4, x5, rfl⟩ := m
    exact t_ret1 (e_var rfl) q

theorem ok_law_paper_so (T : Txt K mg) (G_is_made : FnOk P w K mg base CX0 7 T.a_is_made T.d_is_made ["cells", "seeds", "row"] (SpE Rg_is_made)) (G_look : FnOk P w K mg base CX0 5 T.a_look T.d_look ["cells", "seeds", "paper"] (SpE Rg_look)) (G_law_same : FnOk P w K mg base CX0 6 T.a_law_same T.d_law_same ["_law_found", "_law_due"] (SpE Rg_law_same)) (G_law_lines : FnOk P w K mg base CX0 4 T.a_law_lines T.d_law_lines ["_law_frame_here", "_law_stack_here", "_law_r"] (SpE Rg_law_lines)) (G_Band_come : FnOk P w K mg base CX0 7 T.a_Band_come T.d_Band_come ["self", "row", "seeds"] (SpE (Rg_Band_come T.a_Band))) (G_Band___contains : FnOk P w K mg base CX0 1 T.a_Band___contains T.d_Band___contains ["self", "x"] (SpE (Rg_Band___contains T.a_Band))) : FnOk P w K mg base CX0 8 T.a_law_paper_so T.d_law_paper_so ["_law_band", "_law_frame_here", "_law_stack_here", "_law_r", "_law_made"] (SpE (Rg_law_paper_so T.a_Band)) := by
  refine T.F_law_paper_so.ok sc_law_paper_so (fun vs H Q E h => spE_len h len_law_paper_so) (fun cdv A outer s H vs Q E hr h => ?_)
  have hu := hu64 hr
  obtain ⟨ds0, vd_Band_come, bd_Band_come⟩ := T.F_Band_come.binds0 (ps := ["self", "row", "seeds"]) 2 (by simp) (by rfl) fun _ _ _ _ _ _ us ks hu hk => match us, ks, hu, hk with
    | [_, _], [_], _, _ => ⟨_, _, _, _, _, _, rfl, rfl, rfl⟩
  have hvl : vs.length = 5 := spE_len h len_law_paper_so
  refine ⟨_, (pss_cons (ps_set (i := 5) sc_law_paper_so.nd rfl (Or.inl rfl) (pe_meth (pv 0) T.cl_Band T.me_Band_come G_Band_come (hr.mono (by decide)) bd_Band_come vd_Band_come pass0 (pa_cons (pv 3) pa_nil))) (pss_cons (ps_if (PW.pt (pw_or (pt_not (pt_val (pe_call G_law_same (hr.mono (by decide)) (by rfl) T.g_law_same T.F_law_same.kp (b_law_same T) .nil pass0 (pa_cons (pv 5) (pa_cons (pe_call G_law_lines (hr.mono (by decide)) (by rfl) T.g_law_lines T.F_law_lines.kp (b_law_lines T) .nil pass0 (pa_cons (pv 1) (pa_cons (pv 2) (pa_cons (pv 3) pa_nil)))) pa_nil))))) (pw_or1 (pt_not (pt_val (pe_call G_law_same (hr.mono (by decide)) (by rfl) T.g_law_same T.F_law_same.kp (b_law_same T) .nil pass0 (pa_cons (pe_call G_look (hr.mono (by decide)) (by rfl) T.g_look T.F_look.kp (b_look T) .nil pass0 (pa_cons (pv 1) (pa_cons (pv 2) (pa_cons (pv 5) pa_nil)))) (pa_cons pe_non pa_nil)))))))) (pss_one (ps_ret pe_bl)) pss_nil) (pss_one (ps_ret (pe_call G_law_same (hr.mono (by decide)) (by rfl) T.g_law_same T.F_law_same.kp (b_law_same T) .nil pass0 (pa_cons (pe_lst (pa_cons (pe_ix (ix_K (K := K) rfl) (pv 5) (pe_op op_sub (pe_callB (call_lenK (K := K) rfl) (by rfl) T.n_len (by decide +kernel) (pa_cons (pv 5) pa_nil)) pe_int) (fun _ _ => rfl)) (pa_cons (pe_call G_is_made (hr.mono (by decide)) (by rfl) T.g_is_made T.F_is_made.kp (b_is_made T) .nil pass0 (pa_cons (pv 1) (pa_cons (pv 2) (pa_cons (pv 3) pa_nil)))) (pa_cons (pe_cmpR (op_inI T.con_Band T.isf_Band___contains G_Band___contains (hr.mono (by decide)) (b_Band___contains T) pass0) (pv 3) (pv 0) (by rfl)) pa_nil)))) (pa_cons (pe_lst (pa_cons (pe_ifExp (pt_val (pv 4)) (pe_tup (pa_cons pe_str pa_nil)) (pe_tup (pa_cons pe_str pa_nil))) (pa_cons (pv 4) (pa_cons (pv 4) pa_nil)))) pa_nil))))))), fn_body h (by rw [hvl]; decide) (fun ds R hR hl => ?_)⟩
  obtain ⟨cs, S, M, O, r, rfl, hB, hr, q⟩ := hR
  cases vd_Band_come with
  | cons v0 v1 =>
  cases v1
  have hcs := hB.cel.cs
  have h12 := hB.cel.le
  have hSl := hB.le
  have hS := hB.sd.row
  have hrl := hr.1
  have hCR := rowV_ok hcs hr
  have hlen : Len r.length S := fun s hs => by rw [(hS s hs).1, hrl]
  have hln : Len cs.length S := fun s hs => (hS s hs).1
  have hmade : decide (r ∈ M) = madeB S r := by
    rw [Bool.eq_iff_iff, decide_eq_true_iff, hB.rows.1 r]
    exact clo_iff hln hrl
  refine q_asg (P := fun e => e = .own (paperD cs S r) ∧ (∀ l ∈ paperD cs S r, LineOk l) ∧ (paperD cs S r).length ≤ 200 ∧ lookH cs S (paperD cs S r) = .non ∧ (paperD cs S r)[(paperD cs S r).length - 1]? = some (.tup [.str (if madeB S r = true then wMade else wBarred)])) (e_meth (Rg := Rg_Band_come T.a_Band) (cs := [.non]) (fs := bandF cs S M O) (e_var rfl) (by rfl) (ea_c (e_var rfl) ea_nil) (.cons .non .nil) ⟨cs, S, M, O, r, rfl, hCR, by omega, hlen, fun tk t h1 h2 => ?_⟩) fun e ⟨e1, hp1, hp2, hp3, hp4⟩ => ?_
  · have e := lines_of (cs := cs) hlen h1 h2
    have hl := come_lines hcs (fun c hc => nmW_V (hB.cel.nm c hc)) hr hS h1.run h2
    have hg := come_good hCR h1.run h2
    have htl := run_dots hlen h1.run
    have hmt := made_of hlen h1 h2
    rw [e] at hl hg
    refine ⟨by rw [e], hl.1, ?_, hg, ?_⟩
    · have h3 := hl.2
      have h4 := run_len hlen h1.run
      omega
    · rw [← e, ← hmt]
      unfold linesD
      by_cases ht : t = lotOf r
      · rw [if_pos ht, decide_eq_true ht, if_pos rfl, List.length_append, List.length_singleton, Nat.add_sub_cancel, List.getElem?_append_right (Nat.le_refl _), Nat.sub_self]
        rfl
      · rw [if_neg ht, decide_eq_false ht, if_neg Bool.false_ne_true, List.length_append, List.length_singleton, Nat.add_sub_cancel, List.getElem?_append_right (Nat.le_refl _), Nat.sub_self]
        rfl
  subst e1
  refine t_freeze (i := 5) (ds := paperD cs S r) rfl ?_
  have hSO : SOk cs.length S := ⟨by omega, hln, fun s hs => (rowV_tx hcs (hS s hs)).1⟩
  have hPap : PapOk (.lst (paperD cs S r)) := ⟨fun l hl => (hp1 l hl).1, by omega⟩
  have hCO : CsOk cs := ⟨hcs.1, fun c hc => (hcs.2 c hc).2, fun c hc => strs_ok (nmW_V (hB.cel.nm c hc)).2⟩
  refine q_if1 (b := false) ((et_or1 (a := false) (c := false) ((et_not1 (et_v1 (EV.d1 (e_call0 (Rg := Rg_law_same) (R := fun e => e = .dat (.bl true)) (ea_c (e_var rfl) (ea_c (EV.o1 (e_call0 (Rg := Rg_law_lines) (R := fun e => e = .own (paperD cs S r)) (ea_c (e_var rfl) (ea_c (e_var rfl) (ea_c (e_var rfl) ea_nil))) ⟨cs, S, r, rfl, by omega, hlen, hrl, by omega, rfl⟩)) ea_nil)) ⟨_, rfl, sm_lst (fun l hl => (hp1 l hl).2) (by omega), rfl⟩)))).is rfl) (fun _ => (et_not1 (et_v1 (EV.d1 (e_call0 (Rg := Rg_law_same) (R := fun e => e = .dat (.bl true)) (ea_c ((EV.d1 (e_call0 (Rg := Rg_look) (R := fun e => e = .dat (lookM cs S (.lst (paperD cs S r)))) (ea_c (e_var rfl) (ea_c (e_var rfl) (ea_c (e_var rfl) ea_nil))) ⟨_, _, cs, S, .lst (paperD cs S r), rfl, .lst _, .lst _, hCO, hSO, hPap, rfl⟩)).is (y := .non) hp3) (ea_c e_non ea_nil)) ⟨_, rfl, rfl, rfl⟩)))).is rfl)).is rfl) (fun e => nomatch e) (fun _ => ?_)
  refine t_ret1 (EV.d1 (e_call0 (Rg := Rg_law_same) (R := fun e => e = .dat (.bl true)) (ea_c (EV.o1 (e_lst1 (ds := [.tup [.str (if madeB S r = true then wMade else wBarred)], .bl (madeB S r), .bl (madeB S r)]) (ea_c (e_opd (e_var (d := .lst (paperD cs S r)) rfl) (e_opd (EV.d1 (e_cb1 (ea_c (e_var rfl) ea_nil) cd_lenL)) e_int od_subI) (ix_end rfl hp4)) (ea_c (EV.d1 (e_call0 (Rg := Rg_is_made) (R := fun e => e = .dat (.bl (madeB S r))) (ea_c (e_var rfl) (ea_c (e_var rfl) (ea_c (e_var rfl) ea_nil))) ⟨_, _, cs, S, r, rfl, .lst _, .lst _, hCR, by omega, hlen, fun tk t h1 h2 => by rw [made_of hlen h1 h2]⟩)) (ea_c ((e_opd (e_var rfl) (e_var (d := bandD T.a_Band cs S M O) rfl) (od_inI (Rg := Rg_Band___contains T.a_Band) (neg := false) (b := decide (r ∈ M)) ⟨cs, S, M, O, r, rfl, rfl⟩)).is (y := .bl (madeB S r)) (by rw [hmade]; rfl)) ea_nil))) (by simp))) (ea_c (EV.o1 (e_lst1 (ds := [.tup [.str (if madeB S r = true then wMade else wBarred)], .bl (madeB S r), .bl (madeB S r)]) (ea_c (e_ifd (T := fun b => b = madeB S r) (et_v1 ((e_var rfl).is (by rw [hmade]))) (fun e => (e_tup1 (ea_c (e_str (s := wMade) (by decide +kernel)) ea_nil) (by simp)).is (by rw [← e, if_pos rfl])) (fun e => (e_tup1 (ea_c (e_str (s := wBarred) (by decide +kernel)) ea_nil) (by simp)).is (by rw [← e, if_neg Bool.false_ne_true]))) (ea_c ((e_var rfl).is (by rw [hmade])) (ea_c ((e_var rfl).is (by rw [hmade])) ea_nil))) (by simp))) ea_nil)) ⟨_, rfl, sm_lst (fun d hd => ?_) (by simp), rfl⟩)) q
  simp only [List.mem_cons, List.not_mem_nil, or_false] at hd
  rcases hd with h | h | h <;> subst h
  · split <;> rfl
  · exact sm_bl _ _
  · exact sm_bl _ _

end
end Nt

namespace Nt
open PySem PySem.Spec PyProof.Rows L2


theorem lot_ov : ∀ x y : List Nat, ov (lotOf x) (lotOf y) = lotOf (ov x y)
  | [], y => by cases y <;> rfl
  | a :: x, [] => rfl
  | a :: x, b :: y => by
    have ih := lot_ov x y
    show (if (if a = 46 then 46 else 43) = 46 then (if b = 46 then 46 else 43) else (if a = 46 then 46 else 43)) :: ov (lotOf x) (lotOf y) = (if (if a = 46 then b else a) = 46 then 46 else 43) :: lotOf (ov x y)
    rw [ih]
    congr 1
    by_cases h : a = 46
    · simp [h]
    · simp [h]
/-- what is asked of all fillings -/
def askL (A : List (List Nat)) (t : Nat → Bool) : List (List Nat) := ((List.range A.length).filter t).map fun i => A.getD i []
theorem range_getD (A : List (List Nat)) : (List.range A.length).map (fun i => A.getD i []) = A := by
  refine List.ext_getElem (by simp) fun i h1 h2 => ?_
  simp [List.getD_eq_getElem?_getD, List.getElem?_eq_getElem h2]
theorem ask_sub (A : List (List Nat)) (t : Nat → Bool) : (askL A t).Sublist A := by
  have h : (askL A t).Sublist ((List.range A.length).map fun i => A.getD i []) := List.Sublist.map _ List.filter_sublist
  rwa [range_getD] at h
theorem ask_mem {A : List (List Nat)} {t : Nat → Bool} {M : List (List Nat)} (h : ∀ i, i < A.length → A.getD i [] ∈ M → t i = true) {z : List Nat} (hz : z ∈ A) (hm : z ∈ M) : z ∈ askL A t := by
  obtain ⟨i, hi, e⟩ := List.mem_iff_getElem.mp hz
  have e2 : A.getD i [] = z := by rw [List.getD_eq_getElem?_getD, List.getElem?_eq_getElem hi, e]; rfl
  exact List.mem_map.mpr ⟨i, List.mem_filter.mpr ⟨List.mem_range.mpr hi, h i hi (by rw [e2]; exact hm)⟩, e2⟩
theorem ask_at {A : List (List Nat)} {i : Nat} (h : i < A.length) : (A.map D.str)[i]? = some (D.str (A.getD i [])) := by
  rw [List.getElem?_map, List.getElem?_eq_getElem h, List.getD_eq_getElem?_getD, List.getElem?_eq_getElem h]; rfl
theorem ask_in {A : List (List Nat)} {i : Nat} (h : i < A.length) : A.getD i [] ∈ A := by
  rw [List.getD_eq_getElem?_getD, List.getElem?_eq_getElem h]; exact List.getElem_mem h
def Rg_law (K : PySem.W.Frag) (ds : List D) (P : En → Prop) : Prop := ∃ ns : List Int, ds = [.scr K ns] ∧ ns.length ≤ 63 ∧ P (.dat (.bl true))
theorem len_law {K : PySem.W.Frag} (ds P) (h : Rg_law K ds P) : ds.length = 1 := by obtain ⟨_, rfl, _⟩ := h; rfl
section
variable {P : Program} {w : World} {K : PySem.W.Frag} {mg : Str → Option Value} {base : Heap}
theorem t_env {t : TS} {ρ ρ' : List En} {p : Ps} (e : ρ = ρ') (k : TT' t ρ' p) : TT' t ρ p := e ▸ k

theorem ok_law (T : Txt K mg) (G_over : FnOk P w K mg base CX0 1 T.a_over T.d_over ["newer", "older"] (SpE Rg_over)) (G_union : FnOk P w K mg base CX0 2 T.a_union T.d_union ["one", "other"] (SpE Rg_union)) (G_law_bag : FnOk P w K mg base CX0 1 T.a_law_bag T.d_law_bag ["_law_script"] (SpE (Rg_law_bag K))) (G_law_draw : FnOk P w K mg base CX0 1 T.a_law_draw T.d_law_draw ["_law_bag_here", "_law_sides"] (SpE Rg_law_draw)) (G_law_of : FnOk P w K mg base CX0 2 T.a_law_of T.d_law_of ["_law_bag_here", "_law_things"] (SpE Rg_law_of)) (G_law_same : FnOk P w K mg base CX0 6 T.a_law_same T.d_law_same ["_law_found", "_law_due"] (SpE Rg_law_same)) (G_law_frame : FnOk P w K mg base CX0 4 T.a_law_frame T.d_law_frame ["_law_bag_here", "_law_size_here", "_law_widest"] (SpE Rg_law_frame)) (G_law_stack : FnOk P w K mg base CX0 3 T.a_law_stack T.d_law_stack ["_law_bag_here", "_law_frame_here", "_law_size_here"] (SpE Rg_law_stackW)) (G_law_size : FnOk P w K mg base CX0 3 T.a_law_size T.d_law_size ["_law_bag_here"] (SpE Rg_law_size)) (G_law_lot : FnOk P w K mg base CX0 1 T.a_law_lot T.d_law_lot ["_law_r"] (SpE Rg_law_lot)) (G_law_lots : FnOk P w K mg base CX0 2 T.a_law_lots T.d_law_lots ["_law_told"] (SpE Rg_law_lots)) (G_law_rows : FnOk P w K mg base CX0 2 T.a_law_rows T.d_law_rows ["_law_stack_here", "_law_wide", "_law_cap"] (SpE Rg_law_rows)) (G_law_fillings : FnOk P w K mg base CX0 1 T.a_law_fillings T.d_law_fillings ["_law_frame_here"] (SpE Rg_law_fillings)) (G_law_paper_so : FnOk P w K mg base CX0 8 T.a_law_paper_so T.d_law_paper_so ["_law_band", "_law_frame_here", "_law_stack_here", "_law_r", "_law_made"] (SpE (Rg_law_paper_so T.a_Band))) (G_Band___init : FnOk P w K mg base CX0 5 T.a_Band___init T.d_Band___init ["self", "cells", "seeds", "most"] (SpI T.a_Band Rg_Band___init)) (G_Band_rows : FnOk P w K mg base CX0 1 T.a_Band_rows T.d_Band_rows ["self"] (SpE (Rg_Band_rows T.a_Band))) (G_Band_full_rows : FnOk P w K mg base CX0 1 T.a_Band_full_rows T.d_Band_full_rows ["self"] (SpE (Rg_Band_full_rows T.a_Band))) (G_Band_lots : FnOk P w K mg base CX0 1 T.a_Band_lots T.d_Band_lots ["self"] (SpE (Rg_Band_lots T.a_Band))) (G_Band___contains : FnOk P w K mg base CX0 1 T.a_Band___contains T.d_Band___contains ["self", "x"] (SpE (Rg_Band___contains T.a_Band))) (G_Band___len : FnOk P w K mg base CX0 1 T.a_Band___len T.d_Band___len ["self"] (SpE (Rg_Band___len T.a_Band))) : FnOk P w K mg base CX0 9 T.a_law T.d_law ["_law_script"] (SpE (Rg_law K)) := by
  refine T.F_law.ok sc_law (fun vs H Q E h => spE_len h len_law) (fun cdv A outer s H vs Q E hr h => ?_)
  have hu := hu64 hr
  obtain ⟨ds0, vd_Band___init, bd_Band___init⟩ := T.F_Band___init.binds0 (ps := ["self", "cells", "seeds", "most"]) 3 (by simp) (by rfl) fun _ _ _ _ _ _ us ks hu hk => match us, ks, hu, hk with
    | [_, _, _], [_], _, _ => ⟨_, _, _, _, _, _, rfl, rfl, rfl⟩
  have hvl : vs.length = 1 := spE_len h len_law
  refine ⟨_, (pss_cons (ps_set (i := 1) sc_law.nd rfl (Or.inl rfl) (pe_call G_law_bag (hr.mono (by decide)) (by rfl) T.g_law_bag T.F_law_bag.kp (b_law_bag T) .nil pass0 (pa_cons (pv 0) pa_nil))) (pss_cons (ps_set (i := 2) sc_law.nd rfl (Or.inl rfl) (pe_call G_law_frame (hr.mono (by decide)) (by rfl) T.g_law_frame T.F_law_frame.kp (b_law_frame T) .nil pass0 (pa_cons (pv 1) (pa_cons (pe_call G_law_size (hr.mono (by decide)) (by rfl) T.g_law_size T.F_law_size.kp (b_law_size T) .nil pass0 (pa_cons (pv 1) pa_nil)) (pa_cons pe_int pa_nil))))) (pss_cons (ps_set (i := 3) sc_law.nd rfl (Or.inl rfl) (pe_call G_law_stack (hr.mono (by decide)) (by rfl) T.g_law_stack T.F_law_stack.kp (b_law_stack T) .nil pass0 (pa_cons (pv 1) (pa_cons (pv 2) (pa_cons (pe_op op_plus pe_int (pe_call G_law_draw (hr.mono (by decide)) (by rfl) T.g_law_draw T.F_law_draw.kp (b_law_draw T) .nil pass0 (pa_cons (pv 1) (pa_cons pe_int pa_nil)))) pa_nil))))) (pss_cons (ps_set (i := 4) sc_law.nd rfl (Or.inr rfl) (pe_call G_law_rows (hr.mono (by decide)) (by rfl) T.g_law_rows T.F_law_rows.kp (b_law_rows T) .nil pass0 (pa_cons (pv 3) (pa_cons (pe_callB (call_lenK (K := K) rfl) (by rfl) T.n_len (by decide +kernel) (pa_cons (pv 2) pa_nil)) (pa_cons pe_int pa_nil))))) (pss_cons (ps_if (pt_cmpR op_isNU (pv 4) pe_non (nomark _)) (pss_one (ps_ret pe_bl)) pss_nil) (pss_cons (ps_set (i := 5) sc_law.nd rfl (Or.inr rfl) (pe_make T.mk_Band G_Band___init (hr.mono (by decide)) (by rfl) T.g_Band bd_Band___init vd_Band___init pass0 (pa_cons (pv 2) (pa_cons (pv 3) pa_nil)))) (pss_cons (ps_setLc (i := 6) (own := [("_law_r", 19)]) (g := gName 19) (tt := _) rfl sc_law.nd rfl rfl (sw_true rfl rfl rfl (by decide +kernel)) (pi_listK (K := K) rfl (pv 4)) (blkOk_by (N := N_law) (sc := defScope s_law) (by decide +kernel)) (fun _ _ _ _ _ => (pg_name (i := 19) sc_law.nd rfl (Or.inl rfl))) (fun _ _ _ _ _ => (pts_one (pt_cmpR (op_notInK (K := K) rfl) pe_str (pv 19) (by rfl)))) (fun _ _ _ _ _ => (pv 19))) (pss_cons (ps_set (i := 7) sc_law.nd rfl (Or.inl rfl) (pe_call G_law_lots (hr.mono (by decide)) (by rfl) T.g_law_lots T.F_law_lots.kp (b_law_lots T) .nil pass0 (pa_cons (pe_lc (own := [("_law_r", 19)]) (g := gName 19) (tt := tYes) rfl sc_law.nd (pi_listK (K := K) rfl (pv 4)) (blkOk_by (N := N_law) (sc := defScope s_law) (by decide +kernel)) (fun _ _ _ _ _ => (pg_name (i := 19) sc_law.nd rfl (Or.inl rfl))) (fun _ _ _ _ _ => pts_nil) (fun _ _ _ _ _ => (pe_call G_law_lot (hr.mono (by decide)) (by rfl) T.g_law_lot T.F_law_lot.kp (b_law_lot T) .nil pass0 (pa_cons (pv 19) pa_nil)))) pa_nil))) (pss_cons (ps_if (pt_not (pt_val (pe_call G_law_same (hr.mono (by decide)) (by rfl) T.g_law_same T.F_law_same.kp (b_law_same T) .nil pass0 (pa_cons (pe_lst (pa_cons (pe_meth0 (pv 5) T.cl_Band T.me_Band_rows G_Band_rows (hr.mono (by decide)) (b_Band_rows T) .nil pass0) (pa_cons (pe_meth0 (pv 5) T.cl_Band T.me_Band_full_rows G_Band_full_rows (hr.mono (by decide)) (b_Band_full_rows T) .nil pass0) (pa_cons (pe_meth0 (pv 5) T.cl_Band T.me_Band_lots G_Band_lots (hr.mono (by decide)) (b_Band_lots T) .nil pass0) (pa_cons (pe_callB (call_lenI T.len_Band T.isf_Band___len G_Band___len (hr.mono (by decide)) (b_Band___len T) pass0) (by rfl) T.n_len (by decide +kernel) (pa_cons (pv 5) pa_nil)) pa_nil))))) (pa_cons (pe_lst (pa_cons (pv 4) (pa_cons (pv 6) (pa_cons (pv 7) (pa_cons (pe_callB (call_lenK (K := K) rfl) (by rfl) T.n_len (by decide +kernel) (pa_cons (pv 4) pa_nil)) pa_nil))))) pa_nil))))) (pss_one (ps_ret pe_bl)) pss_nil) (pss_cons (ps_set (i := 8) sc_law.nd rfl (Or.inr rfl) (pe_call G_law_fillings (hr.mono (by decide)) (by rfl) T.g_law_fillings T.F_law_fillings.kp (b_law_fillings T) .nil pass0 (pa_cons (pv 2) pa_nil))) (pss_cons (ps_set (i := 9) sc_law.nd rfl (Or.inr rfl) (pe_op op_plus pe_int (pe_op op_fdivW (pe_callB (call_lenK (K := K) rfl) (by rfl) T.n_len (by decide +kernel) (pa_cons (pv 8) pa_nil)) pe_int))) (pss_cons (ps_set (i := 10) sc_law.nd rfl (Or.inr rfl) (pe_call G_law_draw (hr.mono (by decide)) (by rfl) T.g_law_draw T.F_law_draw.kp (b_law_draw T) .nil pass0 (pa_cons (pv 1) (pa_cons (pv 9) pa_nil)))) (pss_cons (ps_setLc (i := 12) (own := [("_law_k", 11)]) (g := gName 11) (tt := _) rfl sc_law.nd rfl rfl (sw_true rfl rfl rfl (by decide +kernel)) (pi_range1 (by rfl) T.n_range (pa_cons (pe_callB (call_lenK (K := K) rfl) (by rfl) T.n_len (by decide +kernel) (pa_cons (pv 8) pa_nil)) pa_nil)) (blkOk_by (N := N_law) (sc := defScope s_law) (by decide +kernel)) (fun _ _ _ _ _ => (pg_name (i := 11) sc_law.nd rfl (Or.inl rfl))) (fun _ _ _ _ _ => (pts_one (PW.pt (pw_or (pt_cmpR (op_eqK (K := K) rfl hu) (pe_op op_modN (pe_callTy call_intI (by rfl) T.n_int (by decide +kernel) (pa_cons (pv 11) pa_nil)) (pv 9)) (pv 10) (nomark _)) (pw_or1 (pt_cmpR (op_inK (K := K) rfl) (pe_ix (ix_K (K := K) rfl) (pv 8) (pv 11) (fun _ _ => rfl)) (pv 4) (by rfl))))))) (fun _ _ _ _ _ => (pe_ix (ix_K (K := K) rfl) (pv 8) (pv 11) (fun _ _ => rfl)))) (pss_cons (ps_setLc (i := 13) (own := [("_law_r", 19)]) (g := gName 19) (tt := _) rfl sc_law.nd rfl rfl (sw_true rfl rfl rfl (by decide +kernel)) (pi_listK (K := K) rfl (pv 12)) (blkOk_by (N := N_law) (sc := defScope s_law) (by decide +kernel)) (fun _ _ _ _ _ => (pg_name (i := 19) sc_law.nd rfl (Or.inl rfl))) (fun _ _ _ _ _ => (pts_one (pt_cmpR (op_inI T.con_Band T.isf_Band___contains G_Band___contains (hr.mono (by decide)) (b_Band___contains T) pass0) (pv 19) (pv 5) (by rfl)))) (fun _ _ _ _ _ => (pv 19))) (pss_cons (ps_if (pt_not (pt_val (pe_call G_law_same (hr.mono (by decide)) (by rfl) T.g_law_same T.F_law_same.kp (b_law_same T) .nil pass0 (pa_cons (pv 13) (pa_cons (pv 4) pa_nil))))) (pss_one (ps_ret pe_bl)) pss_nil) (pss_cons (ps_set (i := 9) sc_law.nd rfl (Or.inr rfl) (pe_op op_plus pe_int (pe_op op_fdivW (pe_callB (call_lenK (K := K) rfl) (by rfl) T.n_len (by decide +kernel) (pa_cons (pv 12) pa_nil)) pe_int))) (pss_cons (ps_set (i := 10) sc_law.nd rfl (Or.inr rfl) (pe_call G_law_draw (hr.mono (by decide)) (by rfl) T.g_law_draw T.F_law_draw.kp (b_law_draw T) .nil pass0 (pa_cons (pv 1) (pa_cons (pv 9) pa_nil)))) (pss_cons (ps_for PassesOwn.never rfl (pi_range1 (by rfl) T.n_range (pa_cons (pe_callB (call_lenK (K := K) rfl) (by rfl) T.n_len (by decide +kernel) (pa_cons (pv 12) pa_nil)) pa_nil)) (pg_name (i := 11) sc_law.nd rfl (Or.inl rfl)) (pss_one (ps_if (PW.pt (pw_or (pt_cmpR (op_eqK (K := K) rfl hu) (pe_op op_modN (pe_callTy call_intI (by rfl) T.n_int (by decide +kernel) (pa_cons (pv 11) pa_nil)) (pv 9)) (pv 10) (nomark _)) (pw_or1 (pt_cmpR (op_inK (K := K) rfl) (pe_ix (ix_K (K := K) rfl) (pv 12) (pv 11) (fun _ _ => rfl)) (pv 4) (by rfl))))) (pss_one (ps_if (pt_not (pt_val (pe_call G_law_paper_so (hr.mono (by decide)) (by rfl) T.g_law_paper_so T.F_law_paper_so.kp (b_law_paper_so T) .nil pass0 (pa_cons (pv 5) (pa_cons (pv 2) (pa_cons (pv 3) (pa_cons (pe_ix (ix_K (K := K) rfl) (pv 12) (pv 11) (fun _ _ => rfl)) (pa_cons (pe_cmpR (op_inK (K := K) rfl) (pe_ix (ix_K (K := K) rfl) (pv 12) (pv 11) (fun _ _ => rfl)) (pv 4) (by rfl)) pa_nil)))))))) (pss_one (ps_ret pe_bl)) pss_nil)) pss_nil))) (pss_cons (ps_for PassesOwn.never rfl (pi_range1 (by rfl) T.n_range (pa_cons pe_int pa_nil)) (pg_name (i := 14) sc_law.nd rfl (Or.inl rfl)) (pss_cons (ps_par (i := 15) (j := 16) (by rfl) sc_law.nd rfl rfl (by decide) rfl rfl (pa_cons (pe_call G_law_of (hr.mono (by decide)) (by rfl) T.g_law_of T.F_law_of.kp (b_law_of T) .nil pass0 (pa_cons (pv 1) (pa_cons (pv 4) pa_nil))) (pa_cons (pe_call G_law_of (hr.mono (by decide)) (by rfl) T.g_law_of T.F_law_of.kp (b_law_of T) .nil pass0 (pa_cons (pv 1) (pa_cons (pv 4) pa_nil))) pa_nil)) (by rfl)) (pss_cons (ps_par (i := 17) (j := 18) (by rfl) sc_law.nd rfl rfl (by decide) rfl rfl (pa_cons (pe_call G_law_lot (hr.mono (by decide)) (by rfl) T.g_law_lot T.F_law_lot.kp (b_law_lot T) .nil pass0 (pa_cons (pv 15) pa_nil)) (pa_cons (pe_call G_law_lot (hr.mono (by decide)) (by rfl) T.g_law_lot T.F_law_lot.kp (b_law_lot T) .nil pass0 (pa_cons (pv 16) pa_nil)) pa_nil)) (by rfl)) (pss_one (ps_if (PW.pt (pw_or (pt_cmpR (op_notInI T.con_Band T.isf_Band___contains G_Band___contains (hr.mono (by decide)) (b_Band___contains T) pass0) (pe_call G_over (hr.mono (by decide)) (by rfl) T.g_over T.F_over.kp (b_over T) .nil pass0 (pa_cons (pv 15) (pa_cons (pv 16) pa_nil))) (pv 5) (by rfl)) (pw_or (pt_cmpR (op_notInK (K := K) rfl) (pe_call G_over (hr.mono (by decide)) (by rfl) T.g_over T.F_over.kp (b_over T) .nil pass0 (pa_cons (pv 15) (pa_cons (pv 16) pa_nil))) (pv 4) (by rfl)) (pw_or1 (pt_cmpR (op_notInK (K := K) rfl) (pe_call G_union (hr.mono (by decide)) (by rfl) T.g_union T.F_union.kp (b_union T) .nil pass0 (pa_cons (pv 17) (pa_cons (pv 18) pa_nil))) (pv 7) (by rfl)))))) (pss_one (ps_ret pe_bl)) pss_nil))))) (pss_one (ps_ret (pe_call G_law_same (hr.mono (by decide)) (by rfl) T.g_law_same T.F_law_same.kp (b_law_same T) .nil pass0 (pa_cons (pe_lst (pa_cons (pe_meth0 (pv 5) T.cl_Band T.me_Band_rows G_Band_rows (hr.mono (by decide)) (b_Band_rows T) .nil pass0) (pa_cons (pe_cmpR op_gt (pe_callB (call_lenK (K := K) rfl) (by rfl) T.n_len (by decide +kernel) (pa_cons (pv 6) pa_nil)) pe_int (nomark _)) pa_nil))) (pa_cons (pe_lst (pa_cons (pv 4) (pa_cons pe_bl pa_nil))) pa_nil)))))))))))))))))))))))), fn_body h (by rw [hvl]; decide) (fun ds R hR hl => ?_)⟩
  obtain ⟨ns, rfl, hns, q⟩ := hR
  cases vd_Band___init with
  | cons v0 v1 =>
  cases v1
  refine q_asg1 (EV.d1 (e_call0 (R := fun e => e = .dat .bag) (ea_c (e_var rfl) ea_nil) ⟨ns, rfl, hns, rfl⟩)) ?_
  refine q_asg (P := fun e => ∃ cs : List (List Nat × Nat), e = .own (cs.map cellD) ∧ CelV cs ∧ cs.length ≤ 6) (e_callP (T := fun ds => ∃ n : Nat, ds = [.bag, .int n, .int 3] ∧ 1 ≤ n ∧ n ≤ 6) (ea_cons (T' := fun _ => True) (P := fun d => d = .bag) (e_var rfl) fun x hx => ea_cons (T' := fun _ => True) (P := fun d => ∃ n : Nat, d = .int n ∧ 1 ≤ n ∧ n ≤ 6) (EV.ed (R := fun e => ∃ n : Nat, e = .dat (.int n) ∧ 1 ≤ n ∧ n ≤ 6) (e_call0 (ea_c (e_var rfl) ea_nil) ⟨rfl, fun n h1 h2 => ⟨n, rfl, h1, h2⟩⟩) fun e ⟨n, e1, h⟩ => ⟨.int n, by rw [e1]; rfl, n, rfl, h⟩) fun y ⟨n, hy, h⟩ => (ea_c e_int ea_nil).imp fun ds e => ⟨n, by rw [e, hx, hy], h⟩) fun ds ⟨n, e, h1, h2⟩ => ⟨n, 3, e, by omega, by decide, by decide, fun cs g1 g2 g3 => ⟨cs, rfl, ⟨by omega, by omega, fun c hc => (g2 c hc).2, fun c hc => by have := (g2 c hc).1; omega, g3⟩, by omega⟩⟩) fun e ⟨cs, e1, hcel, hc6⟩ => ?_
  subst e1
  have hcs := hcel.cs
  have hc1 := hcel.ne
  refine t_freeze (i := 2) (ds := cs.map cellD) rfl ?_
  refine q_asg (P := fun e => ∃ S : List (List Nat), e = .own (S.map D.str) ∧ S ≠ [] ∧ S.length ≤ 6 ∧ SdV cs S) (e_callP (T := fun ds => ∃ n : Nat, ds = [.bag, .lst (cs.map cellD), .int n] ∧ 1 ≤ n ∧ n ≤ 6) (ea_cons (T' := fun _ => True) (P := fun d => d = .bag) (e_var rfl) fun x hx => ea_cons (T' := fun _ => True) (P := fun d => d = .lst (cs.map cellD)) (e_var rfl) fun y hy => (ea_1 (P := fun d => ∃ n : Nat, d = .int n ∧ 1 ≤ n ∧ n ≤ 6) (EV.ed (R := fun e => ∃ n : Nat, e = .dat (.int n) ∧ 1 ≤ n ∧ n ≤ 6) (e_op (PA := fun d => d = .int 2) (PB := fun d => ∃ j : Nat, d = .int j ∧ (j : Int) < 4) e_int (e_draw (e_var rfl) e_int (by decide) (by decide)) fun a b ha ⟨j, hb, hj⟩ => ?_) fun e ⟨n, e1, h⟩ => ⟨.int n, by rw [e1]; rfl, n, rfl, h⟩)).imp fun ds ⟨z, e, n, ez, h⟩ => ⟨n, by rw [e, hx, hy, ez], h⟩) fun ds ⟨n, e, h1, h2⟩ => ⟨cs, n, e, hcs, hc1, h1, by omega, fun S g1 g2 g3 => ⟨S, rfl, g1, by omega, g3⟩⟩) fun e ⟨S, e1, hne, hl, hSd⟩ => ?_
  · subst ha hb
    intro W v w2 r1 r2 Q q
    exact od_addI W v w2 r1 r2 Q fun u e W' g r p => q u e W' g r ⟨2 + j, by rw [p]; congr 2, by omega, by omega⟩
  subst e1
  refine t_freeze (i := 3) (ds := S.map D.str) rfl ?_
  have hS := hSd.row
  have hln : Len cs.length S := fun s hs => (hS s hs).1
  have hcl : (cs.map cellD).length = cs.length := List.length_map ..
  refine q_asg (P := fun e => e = .dat .non ∨ ∃ M : List (List Nat), e = .own (M.map D.str) ∧ IsRows M S cs.length ∧ M.length ≤ 40) (e_call0 (Rg := Rg_law_rows) (ea_c (e_var rfl) (ea_c ((EV.d1 (e_cb1 (ea_c (e_var rfl) ea_nil) cd_lenL)).is (by rw [hcl])) (ea_c e_int ea_nil))) ⟨S, cs.length, rfl, by omega, hln, by omega, fun F _ _ _ => .inl rfl, fun M h1 h2 => .inr ⟨M, rfl, h1, h2⟩⟩) fun e hm => ?_
  rcases hm with e1 | ⟨M, e1, hM, hM40⟩
  · subst e1
    exact q_if1 (b := true) (et_t1 (e_opd (e_var rfl) e_non od_isN)) (fun _ => t_ret1 e_bl q) (fun e => nomatch e)
  subst e1
  refine t_freeze (i := 4) (ds := M.map D.str) rfl ?_
  refine q_if1 (b := false) (et_t1 (e_opd (e_var rfl) e_non od_isN)) (fun e => nomatch e) (fun _ => ?_)
  refine t_env (ρ' := [.dat (.scr K ns), .dat .bag, .dat (.lst (cs.map cellD)), .dat (.lst (S.map D.str)), .dat (.lst (M.map D.str)), .un, .un, .un, .un, .un, .un, .un, .un, .un, .un, .un, .un, .un, .un, .un]) rfl ?_
  have hfew : Few S cs.length := fun F h1 h2 => Nat.le_trans (nodup_len h1 fun z hz => (hM.1 z).mpr (h2 z hz)) hM40
  refine q_asgd (PD := fun d => ∃ O, d = bandD T.a_Band cs S M O ∧ BandV cs S M O) (EV.ed (R := fun e => ∃ x fs, e = .inst x T.a_Band fs ∧ ∃ O, fs = bandF cs S M O ∧ BandV cs S M O) (e_make (cs := [.int 800]) (ea_c (e_var rfl) (ea_c (e_var rfl) ea_nil)) (.cons (.int 800) .nil) (Rg := Rg_Band___init) ⟨cs, S, rfl, hcel, hSd, by omega, hfew, fun M' O hB => ?_⟩) fun e ⟨x, fs, e1, O, e2, hB⟩ => ⟨.ins T.a_Band fs, by rw [e1]; rfl, O, by rw [e2]; rfl, hB⟩) fun d ⟨O, e, hB⟩ => ?_
  · have e : M' = M := lt_same hB.rows.2 hM.2 fun z => (hB.rows.1 z).trans (hM.1 z).symm
    subst e
    exact ⟨O, rfl, hB⟩
  subst e
  refine t_env (ρ' := [.dat (.scr K ns), .dat .bag, .dat (.lst (cs.map cellD)), .dat (.lst (S.map D.str)), .dat (.lst (M.map D.str)), .dat (bandD T.a_Band cs S M O), .un, .un, .un, .un, .un, .un, .un, .un, .un, .un, .un, .un, .un, .un]) rfl ?_
  have hMm : (M.map D.str).length = M.length := List.length_map ..
  have hMz : ∀ z ∈ M, z.length = cs.length := fun z hz => clo_len hln ((hM.1 z).mp hz)
  have hMr : ∀ z ∈ M, RowV cs z := fun z hz => clo_rowV hS ((hM.1 z).mp hz)
  generalize hFu : M.filter (fun z => !decide (46 ∈ z)) = Fu
  refine q_asgo (ds := Fu.map D.str) ((lc1_filt (ds := M) (t := fun z => !decide (46 ∈ z)) (emb := D.str) (f := D.str) (iv_list1 (e_var rfl)) (by omega) (fun i z hz => et_t1 (e_opd (e_str (s := [46]) (by decide +kernel)) (e_var rfl) (od_sgn (neg := true)))) fun i z hz _ => e_var rfl).imp fun e he => by rw [he, hFu]) ?_
  refine t_freeze (i := 6) (ds := Fu.map D.str) rfl ?_
  refine t_env (ρ' := [.dat (.scr K ns), .dat .bag, .dat (.lst (cs.map cellD)), .dat (.lst (S.map D.str)), .dat (.lst (M.map D.str)), .dat (bandD T.a_Band cs S M O), .dat (.lst (Fu.map D.str)), .un, .un, .un, .un, .un, .un, .un, .un, .un, .un, .un, .un, .un]) rfl ?_
  have hFl : Fu.length ≤ 40 := by rw [← hFu]; exact Nat.le_trans (List.length_filter_le _ _) hM40
  have hFp : 0 < Fu.length := by
    obtain ⟨z, hz, hn⟩ := told_full hS hSd.told
    have : z ∈ Fu := by rw [← hFu]; exact List.mem_filter.mpr ⟨(hM.1 z).mpr hz, by rw [decide_eq_false hn]; rfl⟩
    exact List.length_pos_of_mem this
  have hOl := ord_len hB.lots
  rw [List.length_map] at hOl
  have hOm : (O.map D.str).length = O.length := List.length_map ..
  refine q_asgo (ds := O.map D.str) (e_call0 (Rg := Rg_law_lots) (ea_c (EV.o1 ((lc1_map (ds := M) (emb := D.str) (f := fun r => D.str (lotOf r)) (iv_list1 (e_var rfl)) (by omega) fun i r hr => EV.d1 (e_call0 (Rg := Rg_law_lot) (R := fun e => e = .dat (.str (lotOf r))) (ea_c (e_var rfl) ea_nil) ⟨r, rfl, by rw [hMz r (List.mem_of_getElem? hr)]; omega, rfl⟩)).imp (R' := fun e => e = .own ((M.map lotOf).map D.str)) fun e he => by rw [he, List.map_map]; rfl)) ea_nil) ⟨M.map lotOf, rfl, by rw [List.length_map]; omega, fun z hz => ?_, fun O' hO' => by rw [ord_uniq hO' hB.lots]⟩) ?_
  · obtain ⟨r, hr, rfl⟩ := List.mem_map.mp hz
    rw [lotOf_len, hMz r hr]; omega
  refine t_freeze (i := 7) (ds := O.map D.str) rfl ?_
  refine t_env (ρ' := [.dat (.scr K ns), .dat .bag, .dat (.lst (cs.map cellD)), .dat (.lst (S.map D.str)), .dat (.lst (M.map D.str)), .dat (bandD T.a_Band cs S M O), .dat (.lst (Fu.map D.str)), .dat (.lst (O.map D.str)), .un, .un, .un, .un, .un, .un, .un, .un, .un, .un, .un, .un]) rfl ?_
  have hsm : ∀ (n : Nat) (L : List (List Nat)), L.length ≤ 1000 → (D.lst (L.map D.str)).sm (n + 1) = true := fun n L h => sm_strs n L (by omega)
  refine q_if1 (b := !true) (et_not1 (et_v1 (EV.d1 (e_call0 (Rg := Rg_law_same) (R := fun e => e = .dat (.bl true)) (ea_c (EV.o1 (e_lst1 (ds := [.lst (M.map D.str), .lst (Fu.map D.str), .lst (O.map D.str), .int (M.length : Nat)]) (ea_c (EV.o1 (e_meth (Rg := Rg_Band_rows T.a_Band) (cs := []) (fs := bandF cs S M O) (e_var rfl) (by rfl) ea_nil .nil ⟨cs, S, M, O, rfl, rfl⟩)) (ea_c (EV.o1 (e_meth (Rg := Rg_Band_full_rows T.a_Band) (cs := []) (fs := bandF cs S M O) (e_var rfl) (by rfl) ea_nil .nil ⟨cs, S, M, O, rfl, hM40, by rw [hFu]⟩)) (ea_c (EV.o1 (e_meth (Rg := Rg_Band_lots T.a_Band) (cs := []) (fs := bandF cs S M O) (e_var rfl) (by rfl) ea_nil .nil ⟨cs, S, M, O, rfl, rfl⟩)) (ea_c (EV.d1 (e_cb1 (ea_c (e_var (d := bandD T.a_Band cs S M O) rfl) ea_nil) (cd_lenI (Rg := Rg_Band___len T.a_Band) (n := M.length) (by omega) ⟨cs, S, M, O, rfl, rfl⟩))) ea_nil)))) (by simp))) (ea_c (EV.o1 (e_lst1 (ds := [.lst (M.map D.str), .lst (Fu.map D.str), .lst (O.map D.str), .int (M.length : Nat)]) (ea_c (e_var rfl) (ea_c (e_var rfl) (ea_c (e_var rfl) (ea_c ((EV.d1 (e_cb1 (ea_c (e_var rfl) ea_nil) cd_lenL)).is (by rw [hMm])) ea_nil)))) (by simp))) ea_nil)) ⟨_, rfl, sm_lst (fun d hd => ?_) (by simp), rfl⟩)))) (fun e => nomatch e) (fun _ => ?_)
  · simp only [List.mem_cons, List.not_mem_nil, or_false] at hd
    rcases hd with h | h | h | h <;> subst h
    · exact hsm _ _ (by omega)
    · exact hsm _ _ (by omega)
    · exact hsm _ _ (by omega)
    · rfl
  refine q_asg1 (EV.d1 (e_call0 (Rg := Rg_law_fillings) (R := fun e => e = .dat (.lst ((fillL cs).map D.str))) (ea_c (e_var rfl) ea_nil) ⟨cs, rfl, hcs, hc6, rfl⟩)) ?_
  have hok := fill_ok (n := cs.length) rfl fun c hc => (hcs.2 c hc).2
  generalize hA : fillL cs = A
  refine t_env (ρ' := [.dat (.scr K ns), .dat .bag, .dat (.lst (cs.map cellD)), .dat (.lst (S.map D.str)), .dat (.lst (M.map D.str)), .dat (bandD T.a_Band cs S M O), .dat (.lst (Fu.map D.str)), .dat (.lst (O.map D.str)), .dat (.lst (A.map D.str)), .un, .un, .un, .un, .un, .un, .un, .un, .un, .un, .un]) rfl ?_
  have hAm : ∀ z, z ∈ A ↔ RowV cs z := by rw [← hA]; exact hok.mem
  have hAlt : A.Pairwise (· < ·) := by rw [← hA]; exact hok.lt
  have hAl : A.length ≤ 15625 := by
    have h1 := hok.len
    rw [hA] at h1
    have h2 : 5 ^ cs.length ≤ 5 ^ 6 := Nat.pow_le_pow_right (by decide) hc6
    have h3 : 5 ^ 6 = 15625 := by decide
    omega
  have hAmm : (A.map D.str).length = A.length := List.length_map ..
  have hdiv : ∀ (n : Nat) (b : Int), 1 ≤ b → b < 1000 → n ≤ 15625 → CDivW (n : Int) b := fun n b h1 h2 h3 => wide_div (b := 100) (by omega) (by omega) (by decide) (by decide)
  have hstep : ∀ (n : Nat) (b : Int), 50 ≤ b → n ≤ 15625 → 1 ≤ 1 + (n : Int) / b ∧ 1 + (n : Int) / b ≤ 1000 := fun n b h1 h2 => by
    have h3 : 0 ≤ (n : Int) / b := Int.ediv_nonneg (by omega) (by omega)
    have h4 : (n : Int) / b ≤ 313 := Int.ediv_le_of_le_mul (by omega) (by omega)
    omega
  obtain ⟨hs1, hs2⟩ := hstep A.length 250 (by decide) hAl
  refine q_asg1 (d := .int (1 + (A.length : Int) / 250)) (e_opd e_int (e_opd ((EV.d1 (e_cb1 (ea_c (e_var rfl) ea_nil) cd_lenL)).is (by rw [hAmm])) e_int (od_divI (hdiv _ _ (by decide) (by decide) hAl))) od_addI) ?_
  generalize 1 + (A.length : Int) / 250 = st at hs1 hs2
  refine q_asgd (PD := fun d => ∃ j : Nat, d = .int j ∧ (j : Int) < st) (e_draw (k := st) (e_var rfl) (e_var rfl) hs1 hs2) fun d ⟨sk, e, hsk⟩ => ?_
  subst e
  refine t_env (ρ' := [.dat (.scr K ns), .dat .bag, .dat (.lst (cs.map cellD)), .dat (.lst (S.map D.str)), .dat (.lst (M.map D.str)), .dat (bandD T.a_Band cs S M O), .dat (.lst (Fu.map D.str)), .dat (.lst (O.map D.str)), .dat (.lst (A.map D.str)), .dat (.int st), .dat (.int (sk : Nat)), .un, .un, .un, .un, .un, .un, .un, .un, .un]) rfl ?_
  generalize hQ : askL A (fun i => decide (((i : Nat) : Int).fmod st = (sk : Int)) || decide (A.getD i [] ∈ M)) = Q
  refine q_asgo (ds := Q.map D.str) ((lc1_filt (ds := List.range A.length) (emb := fun (i : Nat) => D.int i) (t := fun i => decide (((i : Nat) : Int).fmod st = (sk : Int)) || decide (A.getD i [] ∈ M)) (f := fun i => D.str (A.getD i [])) (iv_rngN (n := A.length) (ea_c ((EV.d1 (e_cb1 (ea_c (e_var rfl) ea_nil) cd_lenL)).is (by rw [hAmm])) ea_nil) (by omega)) (by rw [List.length_range]; omega) (fun k i hi => ?_) (fun k i hi _ => ?_)).imp fun e he => ?_) ?_
  · obtain ⟨hk, e⟩ := List.getElem?_eq_some_iff.mp hi
    rw [List.length_range] at hk
    rw [List.getElem_range] at e
    subst e
    exact (et_or1 (a := decide (((k : Nat) : Int).fmod st = (sk : Int))) (c := decide (A.getD k [] ∈ M)) (et_t1 (e_opd (e_opd (EV.d1 (e_cb1 (ea_c (e_var rfl) ea_nil) cd_int)) (e_var rfl) (od_modI (by omega))) (e_var rfl) od_eqI)) (fun _ => et_t1 (e_opd (e_opd (e_var rfl) (e_var rfl) (od_ixL (j := k) rfl (ask_at hk))) (e_var rfl) (od_inL (neg := false)))))
  · obtain ⟨hk, e⟩ := List.getElem?_eq_some_iff.mp hi
    rw [List.length_range] at hk
    rw [List.getElem_range] at e
    subst e
    exact e_opd (e_var rfl) (e_var rfl) (od_ixL (j := k) rfl (ask_at hk))
  · rw [he, ← hQ]
    unfold askL
    rw [List.map_map]
    rfl
  refine t_freeze (i := 12) (ds := Q.map D.str) rfl ?_
  refine t_env (ρ' := [.dat (.scr K ns), .dat .bag, .dat (.lst (cs.map cellD)), .dat (.lst (S.map D.str)), .dat (.lst (M.map D.str)), .dat (bandD T.a_Band cs S M O), .dat (.lst (Fu.map D.str)), .dat (.lst (O.map D.str)), .dat (.lst (A.map D.str)), .dat (.int st), .dat (.int (sk : Nat)), .un, .dat (.lst (Q.map D.str)), .un, .un, .un, .un, .un, .un, .un]) rfl ?_
  have hQs : Q.Sublist A := by rw [← hQ]; exact ask_sub _ _
  have hQl : Q.length ≤ 15625 := Nat.le_trans hQs.length_le hAl
  have hQm : (Q.map D.str).length = Q.length := List.length_map ..
  have hQlt : Q.Pairwise (· < ·) := hAlt.sublist hQs
  have hQM : Q.filter (fun z => decide (z ∈ M)) = M := lt_same (hQlt.filter _) hM.2 fun z => by
    rw [List.mem_filter, decide_eq_true_iff]
    refine ⟨fun h => h.2, fun h => ⟨?_, h⟩⟩
    rw [← hQ]
    exact ask_mem (fun i hi hm => by rw [decide_eq_true hm, Bool.or_true]) ((hAm z).mpr (hMr z h)) h
  refine q_asgo (ds := M.map D.str) ((lc1_filt (ds := Q) (t := fun z => decide (z ∈ M)) (emb := D.str) (f := D.str) (iv_list1 (e_var rfl)) (by omega) (fun i z hz => et_t1 (e_opd (e_var rfl) (e_var (d := bandD T.a_Band cs S M O) rfl) (od_inI (Rg := Rg_Band___contains T.a_Band) (neg := false) (b := decide (z ∈ M)) ⟨cs, S, M, O, z, rfl, rfl⟩))) fun i z hz _ => e_var rfl).imp fun e he => by rw [he, hQM]) ?_
  refine t_freeze (i := 13) (ds := M.map D.str) rfl ?_
  refine t_env (ρ' := [.dat (.scr K ns), .dat .bag, .dat (.lst (cs.map cellD)), .dat (.lst (S.map D.str)), .dat (.lst (M.map D.str)), .dat (bandD T.a_Band cs S M O), .dat (.lst (Fu.map D.str)), .dat (.lst (O.map D.str)), .dat (.lst (A.map D.str)), .dat (.int st), .dat (.int (sk : Nat)), .un, .dat (.lst (Q.map D.str)), .dat (.lst (M.map D.str)), .un, .un, .un, .un, .un, .un]) rfl ?_
  refine q_if1 (b := !true) (et_not1 (et_v1 (EV.d1 (e_call0 (Rg := Rg_law_same) (R := fun e => e = .dat (.bl true)) (ea_c (e_var rfl) (ea_c (e_var rfl) ea_nil)) ⟨_, rfl, hsm 4 M (by omega), rfl⟩)))) (fun e => nomatch e) (fun _ => ?_)
  obtain ⟨ht1, ht2⟩ := hstep Q.length 50 (by decide) hQl
  refine q_asg1 (d := .int (1 + (Q.length : Int) / 50)) (e_opd e_int (e_opd ((EV.d1 (e_cb1 (ea_c (e_var rfl) ea_nil) cd_lenL)).is (by rw [hQm])) e_int (od_divI (hdiv _ _ (by decide) (by decide) hQl))) od_addI) ?_
  generalize 1 + (Q.length : Int) / 50 = st2 at ht1 ht2
  refine q_asgd (PD := fun d => ∃ j : Nat, d = .int j ∧ (j : Int) < st2) (e_draw (k := st2) (e_var rfl) (e_var rfl) ht1 ht2) fun d ⟨sk2, e, hsk2⟩ => ?_
  subst e
  refine t_env (ρ' := [.dat (.scr K ns), .dat .bag, .dat (.lst (cs.map cellD)), .dat (.lst (S.map D.str)), .dat (.lst (M.map D.str)), .dat (bandD T.a_Band cs S M O), .dat (.lst (Fu.map D.str)), .dat (.lst (O.map D.str)), .dat (.lst (A.map D.str)), .dat (.int st2), .dat (.int (sk2 : Nat)), .un, .dat (.lst (Q.map D.str)), .dat (.lst (M.map D.str)), .un, .un, .un, .un, .un, .un]) rfl ?_
  refine t_seq (M := fun ρ' => ∃ x11 : En, ρ' = [.dat (.scr K ns), .dat .bag, .dat (.lst (cs.map cellD)), .dat (.lst (S.map D.str)), .dat (.lst (M.map D.str)), .dat (bandD T.a_Band cs S M O), .dat (.lst (Fu.map D.str)), .dat (.lst (O.map D.str)), .dat (.lst (A.map D.str)), .dat (.int st2), .dat (.int sk2), x11, .dat (.lst (Q.map D.str)), .dat (.lst (M.map D.str)), .un, .un, .un, .un, .un, .un]) (t_for1 (iv_rngN (n := Q.length) (ea_c ((EV.d1 (e_cb1 (ea_c (e_var rfl) ea_nil) cd_lenL)).is (by rw [hQm])) ea_nil) (by omega)) (fun ds i ρ' => ∃ x11 : En, ρ' = [.dat (.scr K ns), .dat .bag, .dat (.lst (cs.map cellD)), .dat (.lst (S.map D.str)), .dat (.lst (M.map D.str)), .dat (bandD T.a_Band cs S M O), .dat (.lst (Fu.map D.str)), .dat (.lst (O.map D.str)), .dat (.lst (A.map D.str)), .dat (.int st2), .dat (.int sk2), x11, .dat (.lst (Q.map D.str)), .dat (.lst (M.map D.str)), .un, .un, .un, .un, .un, .un]) (fun ds e => ⟨_, rfl⟩) (fun ds i d ρ' e hd inv => ?_) (fun ds ρ' e inv => inv)) fun ρ' m => ?_
  · obtain ⟨x11, rfl⟩ := inv
    rw [e] at hd
    obtain ⟨k, hk, rfl⟩ := map_get hd
    obtain ⟨hi, ek⟩ := List.getElem?_eq_some_iff.mp hk
    rw [List.length_range] at hi
    rw [List.getElem_range] at ek
    subst ek
    refine t_if (T := fun _ => True) ((et_or1 (a := decide (((i : Nat) : Int).fmod st2 = (sk2 : Int))) (c := decide (Q.getD i [] ∈ M)) (et_t1 (e_opd (e_opd (EV.d1 (e_cb1 (ea_c (e_var rfl) ea_nil) cd_int)) (e_var rfl) (od_modI (by omega))) (e_var rfl) od_eqI)) (fun _ => et_t1 (e_opd (e_opd (e_var rfl) (e_var rfl) (od_ixL (j := i) rfl (ask_at hi))) (e_var rfl) (od_inL (neg := false))))).imp fun _ _ => trivial) (fun _ => ?_) (fun _ => t_next ⟨_, rfl⟩)
    exact t_if (T := fun b => b = !true) (et_not1 (et_v1 (EV.d1 (e_call0 (Rg := Rg_law_paper_so T.a_Band) (R := fun e => e = .dat (.bl true)) (ea_c (e_var rfl) (ea_c (e_var rfl) (ea_c (e_var rfl) (ea_c (e_opd (e_var rfl) (e_var rfl) (od_ixL (j := i) rfl (ask_at hi))) (ea_c (e_opd (e_opd (e_var rfl) (e_var rfl) (od_ixL (j := i) rfl (ask_at hi))) (e_var rfl) (od_inL (neg := false))) ea_nil))))) ⟨cs, S, M, O, Q.getD i [], rfl, hB, (hAm _).mp (hQs.subset (ask_in hi)), rfl⟩)))) (fun e => nomatch e) (fun _ => t_next ⟨_, rfl⟩)
  obtain ⟨x11, rfl⟩ := m
  have hbl : List.replicate cs.length 46 ∈ M := (hM.1 _).mpr .blank
  have hMp : 1 ≤ (M.map D.str).length := by rw [hMm]; exact List.length_pos_of_mem hbl
  have hof : ∀ (X : XK) (ρ0 : List En), ρ0[1]? = some (.dat .bag) → ρ0[4]? = some (.dat (.lst (M.map D.str))) → EV (tCall (SpE Rg_law_of) [] X (tCons (tVar 1) (tCons (tVar 4) tNil))) ρ0 (fun e => ∃ z ∈ M, e = .dat (.str z)) := fun X ρ0 h1 h4 =>
    (e_of (x := .lst (M.map D.str)) (e_var h1) (e_var h4) (.lst _) hMp (by rw [hMm]; omega)).ev.imp fun e ⟨d, e1, e2⟩ => by
      obtain ⟨z, hz, e3⟩ := List.mem_map.mp e2
      exact ⟨z, hz, by rw [e1, e3]⟩
  refine t_seq (M := fun ρ' => ∃ x14 x15 x16 x17 x18 : En, ρ' = [.dat (.scr K ns), .dat .bag, .dat (.lst (cs.map cellD)), .dat (.lst (S.map D.str)), .dat (.lst (M.map D.str)), .dat (bandD T.a_Band cs S M O), .dat (.lst (Fu.map D.str)), .dat (.lst (O.map D.str)), .dat (.lst (A.map D.str)), .dat (.int st2), .dat (.int sk2), x11, .dat (.lst (Q.map D.str)), .dat (.lst (M.map D.str)), x14, x15, x16, x17, x18, .un]) (t_for1 (iv_rngN (n := 12) (ea_c e_int ea_nil) (by decide)) (fun ds i ρ' => ∃ x14 x15 x16 x17 x18 : En, ρ' = [.dat (.scr K ns), .dat .bag, .dat (.lst (cs.map cellD)), .dat (.lst (S.map D.str)), .dat (.lst (M.map D.str)), .dat (bandD T.a_Band cs S M O), .dat (.lst (Fu.map D.str)), .dat (.lst (O.map D.str)), .dat (.lst (A.map D.str)), .dat (.int st2), .dat (.int sk2), x11, .dat (.lst (Q.map D.str)), .dat (.lst (M.map D.str)), x14, x15, x16, x17, x18, .un]) (fun ds e => ⟨_, _, _, _, _, rfl⟩) (fun ds i d ρ' e hd inv => ?_) (fun ds ρ' e inv => inv)) fun ρ' m => ?_
  · obtain ⟨x14, x15, x16, x17, x18, rfl⟩ := inv
    refine t_seq (M := fun ρ' => ∃ x y : List Nat, ρ' = [.dat (.scr K ns), .dat .bag, .dat (.lst (cs.map cellD)), .dat (.lst (S.map D.str)), .dat (.lst (M.map D.str)), .dat (bandD T.a_Band cs S M O), .dat (.lst (Fu.map D.str)), .dat (.lst (O.map D.str)), .dat (.lst (A.map D.str)), .dat (.int st2), .dat (.int sk2), x11, .dat (.lst (Q.map D.str)), .dat (.lst (M.map D.str)), .dat d, .dat (.str x), .dat (.str y), x17, x18, .un] ∧ x ∈ M ∧ y ∈ M) (t_par (hof _ _ rfl rfl) (hof _ _ rfl rfl) fun a b ⟨x, hx, ha⟩ ⟨y, hy, hb⟩ => ⟨x, y, by rw [ha, hb]; rfl, hx, hy⟩) fun ρ' m => ?_
    obtain ⟨x, y, rfl, hx, hy⟩ := m
    have hxl := hMz x hx
    have hyl := hMz y hy
    have hlot : ∀ (X : XK) (ρ0 : List En) (j : Nat) (z : List Nat), z ∈ M → ρ0[j]? = some (.dat (.str z)) → EV (tCall (SpE Rg_law_lot) [] X (tCons (tVar j) tNil)) ρ0 (fun e => e = .dat (.str (lotOf z))) := fun X ρ0 j z hz h => e_call0 (Rg := Rg_law_lot) (ea_c (e_var h) ea_nil) ⟨z, rfl, by rw [hMz z hz]; omega, rfl⟩
    refine t_seq (M := fun ρ' => ρ' = [.dat (.scr K ns), .dat .bag, .dat (.lst (cs.map cellD)), .dat (.lst (S.map D.str)), .dat (.lst (M.map D.str)), .dat (bandD T.a_Band cs S M O), .dat (.lst (Fu.map D.str)), .dat (.lst (O.map D.str)), .dat (.lst (A.map D.str)), .dat (.int st2), .dat (.int sk2), x11, .dat (.lst (Q.map D.str)), .dat (.lst (M.map D.str)), .dat d, .dat (.str x), .dat (.str y), .dat (.str (lotOf x)), .dat (.str (lotOf y)), .un]) (t_par (hlot _ _ _ x hx rfl) (hlot _ _ _ y hy rfl) fun a b ha hb => by rw [ha, hb]; rfl) fun ρ' m => ?_
    subst m
    have hov : ov x y ∈ M := (hM.1 _).mpr (clo_ov hln ((hM.1 x).mp hx) ((hM.1 y).mp hy))
    have hun : ov (lotOf x) (lotOf y) ∈ O := (hB.lots.1 _).mpr (by rw [lot_ov]; exact List.mem_map_of_mem hov)
    have hove : ∀ (X : XK) (ρ0 : List En), ρ0[15]? = some (.dat (.str x)) → ρ0[16]? = some (.dat (.str y)) → ED (tCall (SpE Rg_over) [] X (tCons (tVar 15) (tCons (tVar 16) tNil))) ρ0 (· = .str (ov x y)) := fun X ρ0 h1 h2 => EV.d1 (e_call0 (Rg := Rg_over) (R := fun e => e = .dat (.str (ov x y))) (ea_c (e_var h1) (ea_c (e_var h2) ea_nil)) ⟨x, y, rfl, by omega, rfl⟩)
    refine t_if (T := fun b => b = (!decide (ov x y ∈ M) || (!decide (ov x y ∈ M) || !decide (ov (lotOf x) (lotOf y) ∈ O)))) (et_or1 (et_t1 (e_opd (hove _ _ rfl rfl) (e_var (d := bandD T.a_Band cs S M O) rfl) (od_inI (Rg := Rg_Band___contains T.a_Band) (neg := true) (b := decide (ov x y ∈ M)) ⟨cs, S, M, O, _, rfl, rfl⟩))) (fun _ => et_or1 (et_t1 (e_opd (hove _ _ rfl rfl) (e_var rfl) (od_inL (neg := true)))) (fun _ => et_t1 (e_opd (EV.d1 (e_call0 (Rg := Rg_union) (R := fun e => e = .dat (.str (ov (lotOf x) (lotOf y)))) (ea_c (e_var rfl) (ea_c (e_var rfl) ea_nil)) ⟨lotOf x, lotOf y, rfl, by rw [lotOf_len]; omega, rfl⟩)) (e_var rfl) (od_inL (neg := true)))))) (fun e => ?_) (fun _ => t_next ⟨_, _, _, _, _, rfl⟩)
    rw [decide_eq_true hov, decide_eq_true hun] at e
    cases e
  obtain ⟨x14, x15, x16, x17, x18, rfl⟩ := m
  have hFm : (Fu.map D.str).length = Fu.length := List.length_map ..
  refine t_ret1 (EV.d1 (e_call0 (Rg := Rg_law_same) (R := fun e => e = .dat (.bl true)) (ea_c (EV.o1 (e_lst1 (ds := [.lst (M.map D.str), .bl true]) (ea_c (EV.o1 (e_meth (Rg := Rg_Band_rows T.a_Band) (cs := []) (fs := bandF cs S M O) (e_var rfl) (by rfl) ea_nil .nil ⟨cs, S, M, O, rfl, rfl⟩)) (ea_c ((e_opd (EV.d1 (e_cb1 (ea_c (e_var rfl) ea_nil) cd_lenL)) e_int od_gt).is (by rw [hFm, decide_eq_true (by omega)])) ea_nil)) (by simp))) (ea_c (EV.o1 (e_lst1 (ds := [.lst (M.map D.str), .bl true]) (ea_c (e_var rfl) (ea_c e_bl ea_nil)) (by simp))) ea_nil)) ⟨_, rfl, sm_lst (fun d hd => ?_) (by simp), rfl⟩)) q
  simp only [List.mem_cons, List.not_mem_nil, or_false] at hd
  rcases hd with h | h <;> subst h
  · exact hsm _ _ (by omega)
  · rfl

end
end Nt

namespace Nt
open PySem PySem.Spec PyProof.Rows L2

section
variable {P : Program} {w : World} {K : PySem.W.Frag} {mg : Str → Option Value} {base : Heap}
/-- every def keeps its promise -/
theorem all_ok (T : Txt K mg) (TDx : (∃ es n, KDict K w T.a_LINE_SIZES es n) ∧ ∀ z : Str, z ∉ (["row", "take", "made", "bar", "barred"] : List Str) → PySem.W.nsIn K T.a_LINE_SIZES z = some none) : FnOk P w K mg base CX0 9 T.a_law T.d_law ["_law_script"] (SpE (Rg_law K)) := by
  have H_is_name := ok_is_name (P := P) (w := w) (base := base) T 
  have H_is_integer := ok_is_integer (P := P) (w := w) (base := base) T 
  have H_is_row2 := ok_is_row2 (P := P) (w := w) (base := base) T
  have H_is_row := ok_is_row (P := P) (w := w) (base := base) T 
  have H_over := ok_over (P := P) (w := w) (base := base) T 
  have H_lot_of := ok_lot_of (P := P) (w := w) (base := base) T 
  have H_blank := ok_blank (P := P) (w := w) (base := base) T 
  have H_lot_size := ok_lot_size (P := P) (w := w) (base := base) T 
  have H_outside := ok_outside (P := P) (w := w) (base := base) T 
  have H_word_of := ok_word_of (P := P) (w := w) (base := base) T TDx
  have H_law_bag := ok_law_bag (P := P) (w := w) (base := base) T
  have H_law_draw := ok_law_draw (P := P) (w := w) (base := base) T
  have H_law_once := ok_law_once (P := P) (w := w) (base := base) T 
  have H_law_lay := ok_law_lay (P := P) (w := w) (base := base) T 
  have H_law_lot := ok_law_lot (P := P) (w := w) (base := base) T 
  have H_law_join := ok_law_join (P := P) (w := w) (base := base) T 
  have H_law_fresh := ok_law_fresh (P := P) (w := w) (base := base) T 
  have H_law_fillings := ok_law_fillings (P := P) (w := w) (base := base) T 
  have H_Band_rows := ok_Band_rows (P := P) (w := w) (base := base) T 
  have H_Band_full_rows := ok_Band_full_rows (P := P) (w := w) (base := base) T 
  have H_Band_lots := ok_Band_lots (P := P) (w := w) (base := base) T 
  have H_Band___contains := ok_Band___contains (P := P) (w := w) (base := base) T 
  have H_Band___len := ok_Band___len (P := P) (w := w) (base := base) T 
  have H_is_number := ok_is_number (P := P) (w := w) (base := base) T H_is_integer
  have H_union := ok_union (P := P) (w := w) (base := base) T H_over
  have H_barring := ok_barring (P := P) (w := w) (base := base) T H_outside
  have H_tellers_outside := ok_tellers_outside (P := P) (w := w) (base := base) T H_outside
  have H_made_rows := ok_made_rows (P := P) (w := w) (base := base) T H_over H_blank
  have H_law_of := ok_law_of (P := P) (w := w) (base := base) T H_law_draw
  have H_law_row := ok_law_row (P := P) (w := w) (base := base) T H_law_draw
  have H_law_lots := ok_law_lots (P := P) (w := w) (base := base) T H_law_once
  have H_law_rows := ok_law_rows (P := P) (w := w) (base := base) T H_law_lay
  have H_law_fits := ok_law_fits (P := P) (w := w) (base := base) T H_law_fresh
  have H_is_cell := ok_is_cell (P := P) (w := w) (base := base) T H_is_name H_is_number
  have H_can_be_taken := ok_can_be_taken (P := P) (w := w) (base := base) T H_outside H_barring
  have H_bar_holds := ok_bar_holds (P := P) (w := w) (base := base) T H_barring H_word_of
  have H_check_seeds := ok_check_seeds (P := P) (w := w) (base := base) T H_is_row H_blank
  have H_check_told := ok_check_told (P := P) (w := w) (base := base) T 
  have H_law_title := ok_law_title (P := P) (w := w) (base := base) T H_law_draw H_law_of
  have H_law_stack := ok_law_stack (P := P) (w := w) (base := base) T H_law_draw H_law_of H_law_row H_law_once H_law_lot
  have H_law_size := ok_law_size (P := P) (w := w) (base := base) T H_law_of
  have H_law_greedy := ok_law_greedy (P := P) (w := w) (base := base) T H_law_lot H_law_join H_law_fits
  have H_check_cells := ok_check_cells (P := P) (w := w) (base := base) T H_is_cell
  have H_ordered_lots := ok_ordered_lots (P := P) (w := w) (base := base) T H_lot_size
  have H_next_taken := ok_next_taken (P := P) (w := w) (base := base) T H_can_be_taken
  have H_follow_takes := ok_follow_takes (P := P) (w := w) (base := base) T H_lot_of H_blank H_union H_can_be_taken H_word_of
  have H_count_bars := ok_count_bars (P := P) (w := w) (base := base) T H_bar_holds
  have H_law_frame := ok_law_frame (P := P) (w := w) (base := base) T H_law_draw H_law_title
  have H_law_lines := ok_law_lines (P := P) (w := w) (base := base) T H_law_lot H_law_fresh H_law_greedy
  have H_taking := ok_taking (P := P) (w := w) (base := base) T H_lot_of H_blank H_union H_next_taken
  have H_look := ok_look (P := P) (w := w) (base := base) T H_is_row2 H_lot_of H_tellers_outside H_word_of H_follow_takes H_count_bars
  have H_Band___init := ok_Band___init (P := P) (w := w) (base := base) T H_is_number H_check_cells H_lot_of H_ordered_lots H_check_seeds H_check_told H_made_rows
  have H_comes_to := ok_comes_to (P := P) (w := w) (base := base) T H_lot_of H_taking
  have H_come := ok_come (P := P) (w := w) (base := base) T H_is_row H_lot_of H_barring H_taking H_tellers_outside
  have H_law_same := ok_law_same (P := P) (w := w) (base := base) T
  have H_is_made := ok_is_made (P := P) (w := w) (base := base) T H_is_row H_comes_to
  have H_Band_come := ok_Band_come (P := P) (w := w) (base := base) T H_come
  have H_law_paper_so := ok_law_paper_so (P := P) (w := w) (base := base) T H_is_made H_look H_law_same H_law_lines H_Band_come H_Band___contains
  exact ok_law T H_over H_union H_law_bag H_law_draw H_law_of H_law_same H_law_frame H_law_stack H_law_size H_law_lot H_law_lots H_law_rows H_law_fillings H_law_paper_so H_Band___init H_Band_rows H_Band_full_rows H_Band_lots H_Band___contains H_Band___len
end
/-! ### the top, by names -/
theorem fun_of {K : PySem.W.Frag} {x q : Str} {st : Stmt} {kws : List (Str × V)} {f : Addr} {fd : FuncData} (F : FunD K x q (defArgs st) (defBody st) (defScope st) [] kws f fd) : Fun K x q st f fd := by
  obtain ⟨⟨oc, od, dV, kV, doc, pm, an, cdv, ct, osl, e, l, c, dv, kw⟩, kp⟩ := F
  rcases dv with ⟨_, rfl⟩ | ⟨z, _⟩
  · exact ⟨⟨oc, od, kV, doc, pm, an, cdv, ct, osl, e, l, c⟩, kp⟩
  · exact absurd rfl z
theorem hTxt {K : PySem.W.Frag} {h : Heap} {mg : Str → Option Value} (X : K.In h) (G : h.Ns mainGlobals mg) (c : He.SaysD hFa hFn K) (mo : hEx K = true) : ∃ T : Txt K mg, T.a_LINE_SIZES = He.ga K "LINE_SIZES" ∧ T.a_law = He.ga K "law" ∧ ∀ (s : Shared) (v : Value), BindsTo s T.d_law ⟨[v], []⟩ [("_law_script", v)] := by
  obtain ⟨d0, F0⟩ := c.def_ 0 rfl
  obtain ⟨d1, F1⟩ := c.def_ 1 rfl
  obtain ⟨d2, F2⟩ := c.def_ 2 rfl
  obtain ⟨d3, F3⟩ := c.def_ 3 rfl
  obtain ⟨d4, F4⟩ := c.def_ 4 rfl
  obtain ⟨d5, F5⟩ := c.def_ 5 rfl
  obtain ⟨d6, F6⟩ := c.def_ 6 rfl
  obtain ⟨d7, F7⟩ := c.def_ 7 rfl
  obtain ⟨d8, F8⟩ := c.def_ 8 rfl
  obtain ⟨d9, F9⟩ := c.def_ 9 rfl
  obtain ⟨d10, F10⟩ := c.def_ 10 rfl
  obtain ⟨d11, F11⟩ := c.def_ 11 rfl
  obtain ⟨d12, F12⟩ := c.def_ 12 rfl
  obtain ⟨d13, F13⟩ := c.def_ 13 rfl
  obtain ⟨d14, F14⟩ := c.def_ 14 rfl
  obtain ⟨d15, F15⟩ := c.def_ 15 rfl
  obtain ⟨d16, F16⟩ := c.def_ 16 rfl
  obtain ⟨d17, F17⟩ := c.def_ 17 rfl
  obtain ⟨d18, F18⟩ := c.def_ 18 rfl
  obtain ⟨d19, F19⟩ := c.def_ 19 rfl
  obtain ⟨d20, F20⟩ := c.def_ 20 rfl
  obtain ⟨d21, F21⟩ := c.def_ 21 rfl
  obtain ⟨d22, F22⟩ := c.def_ 22 rfl
  obtain ⟨d23, F23⟩ := c.def_ 23 rfl
  obtain ⟨d24, F24⟩ := c.def_ 24 rfl
  obtain ⟨d25, F25⟩ := c.def_ 25 rfl
  obtain ⟨d26, F26⟩ := c.def_ 26 rfl
  obtain ⟨d27, F27⟩ := c.def_ 27 rfl
  obtain ⟨d28, F28⟩ := c.def_ 28 rfl
  obtain ⟨d29, F29⟩ := c.def_ 29 rfl
  obtain ⟨d30, F30⟩ := c.def_ 30 rfl
  obtain ⟨d31, F31⟩ := c.def_ 31 rfl
  obtain ⟨d32, F32⟩ := c.def_ 32 rfl
  obtain ⟨d33, F33⟩ := c.def_ 33 rfl
  obtain ⟨d34, F34⟩ := c.def_ 34 rfl
  obtain ⟨d35, F35⟩ := c.def_ 35 rfl
  obtain ⟨d36, F36⟩ := c.def_ 36 rfl
  obtain ⟨d37, F37⟩ := c.def_ 37 rfl
  obtain ⟨d38, F38⟩ := c.def_ 38 rfl
  obtain ⟨d39, F39⟩ := c.def_ 39 rfl
  obtain ⟨d40, F40⟩ := c.def_ 40 rfl
  obtain ⟨d41, F41⟩ := c.def_ 41 rfl
  obtain ⟨d42, F42⟩ := c.def_ 42 rfl
  obtain ⟨d43, F43⟩ := c.def_ 43 rfl
  obtain ⟨d44, F44⟩ := c.def_ 44 rfl
  obtain ⟨d45, F45⟩ := c.def_ 45 rfl
  obtain ⟨d46, F46⟩ := c.def_ 46 rfl
  obtain ⟨d47, F47⟩ := c.def_ 47 rfl
  obtain ⟨d48, F48⟩ := c.def_ 48 rfl
  obtain ⟨d49, F49⟩ := c.def_ 49 rfl
  obtain ⟨d50, F50⟩ := c.def_ 50 rfl
  obtain ⟨d51, F51⟩ := c.def_ 51 rfl
  obtain ⟨d52, F52⟩ := c.def_ 52 rfl
  obtain ⟨d53, F53⟩ := c.def_ 53 rfl
  obtain ⟨d54, F54⟩ := c.def_ 54 rfl
  obtain ⟨d55, F55⟩ := c.def_ 55 rfl
  obtain ⟨d56, F56⟩ := c.def_ 56 rfl
  obtain ⟨d57, F57⟩ := c.def_ 57 rfl
  obtain ⟨t0, C0⟩ := He.int_ok X G (c.fact 67 (f := .int "LONGEST_NAME" 6) rfl)
  obtain ⟨t1, C1⟩ := He.str_ok X G (c.fact 68 (f := .str "ROW_SIGNS" ".0123") rfl)
  obtain ⟨t2, C2⟩ := He.int_ok X G (c.fact 69 (f := .int "MOST_ROWS" 800) rfl)
  obtain ⟨t3, C3⟩ := He.int_ok X G (c.fact 70 (f := .int "MOST_SEEDS" 30) rfl)
  obtain ⟨t4, C4⟩ := He.int_ok X G (c.fact 71 (f := .int "MOST_CELLS" 12) rfl)
  obtain ⟨t5, C5⟩ := He.int_ok X G (c.fact 72 (f := .int "MOST_VALUES" 4) rfl)
  obtain ⟨t6, C6⟩ := He.str_ok X G (c.fact 73 (f := .str "DIGITS" "0123") rfl)
  obtain ⟨t7, C7⟩ := He.str_ok X G (c.fact 74 (f := .str "DOT" ".") rfl)
  obtain ⟨t8, C8⟩ := He.str_ok X G (c.fact 75 (f := .str "PLUS" "+") rfl)
  have b := FunD.bindsA (ps := ["_law_script"]) F50 fun _ _ _ _ _ _ us hl => match us, hl with | [_], _ => rfl
  exact ⟨⟨He.ga K "is_name", d0, He.ga K "is_integer", d1, He.ga K "is_number", d2,
    He.ga K "is_cell", d3, He.ga K "check_cells", d4, He.ga K "is_row", d5,
    He.ga K "over", d6, He.ga K "lot_of", d7, He.ga K "blank", d8,
    He.ga K "union", d9, He.ga K "lot_size", d10, He.ga K "ordered_lots", d11,
    He.ga K "outside", d12, He.ga K "barring", d13, He.ga K "can_be_taken", d14,
    He.ga K "next_taken", d15, He.ga K "taking", d16, He.ga K "tellers_outside", d17,
    He.ga K "comes_to", d18, He.ga K "come", d19, He.ga K "is_made", d20,
    He.ga K "word_of", d21, He.ga K "follow_takes", d22, He.ga K "bar_holds", d23,
    He.ga K "count_bars", d24, He.ga K "look", d25, He.ga K "check_seeds", d26,
    He.ga K "check_told", d27, He.ga K "made_rows", d28, He.ga K "_law_bag", d29,
    He.ga K "_law_draw", d30, He.ga K "_law_of", d31, He.ga K "_law_same", d32,
    He.ga K "_law_title", d33, He.ga K "_law_frame", d34, He.ga K "_law_row", d35,
    He.ga K "_law_once", d36, He.ga K "_law_stack", d37, He.ga K "_law_size", d38,
    He.ga K "_law_lay", d39, He.ga K "_law_lot", d40, He.ga K "_law_join", d41,
    He.ga K "_law_lots", d42, He.ga K "_law_rows", d43, He.ga K "_law_fresh", d44,
    He.ga K "_law_fits", d45, He.ga K "_law_greedy", d46, He.ga K "_law_lines", d47,
    He.ga K "_law_fillings", d48, He.ga K "_law_paper_so", d49, He.ga K "law", d50,
    He.ma K (He.ga K "Band") "__init__", d51, He.ma K (He.ga K "Band") "rows", d52, He.ma K (He.ga K "Band") "full_rows", d53,
    He.ma K (He.ga K "Band") "lots", d54, He.ma K (He.ga K "Band") "come", d55, He.ma K (He.ga K "Band") "__contains__", d56,
    He.ma K (He.ga K "Band") "__len__", d57, fun_of F0, He.glo_ok X G (c.fact 0 rfl), fun_of F1, He.glo_ok X G (c.fact 1 rfl),
    fun_of F2, He.glo_ok X G (c.fact 2 rfl), fun_of F3, He.glo_ok X G (c.fact 3 rfl), fun_of F4, He.glo_ok X G (c.fact 4 rfl),
    fun_of F5, He.glo_ok X G (c.fact 5 rfl), fun_of F6, He.glo_ok X G (c.fact 6 rfl), fun_of F7, He.glo_ok X G (c.fact 7 rfl),
    fun_of F8, He.glo_ok X G (c.fact 8 rfl), fun_of F9, He.glo_ok X G (c.fact 9 rfl), fun_of F10, He.glo_ok X G (c.fact 10 rfl),
    fun_of F11, He.glo_ok X G (c.fact 11 rfl), fun_of F12, He.glo_ok X G (c.fact 12 rfl), fun_of F13, He.glo_ok X G (c.fact 13 rfl),
    fun_of F14, He.glo_ok X G (c.fact 14 rfl), fun_of F15, He.glo_ok X G (c.fact 15 rfl), fun_of F16, He.glo_ok X G (c.fact 16 rfl),
    fun_of F17, He.glo_ok X G (c.fact 17 rfl), fun_of F18, He.glo_ok X G (c.fact 18 rfl), fun_of F19, He.glo_ok X G (c.fact 19 rfl),
    fun_of F20, He.glo_ok X G (c.fact 20 rfl), fun_of F21, He.glo_ok X G (c.fact 21 rfl), fun_of F22, He.glo_ok X G (c.fact 22 rfl),
    fun_of F23, He.glo_ok X G (c.fact 23 rfl), fun_of F24, He.glo_ok X G (c.fact 24 rfl), fun_of F25, He.glo_ok X G (c.fact 25 rfl),
    fun_of F26, He.glo_ok X G (c.fact 26 rfl), fun_of F27, He.glo_ok X G (c.fact 27 rfl), fun_of F28, He.glo_ok X G (c.fact 28 rfl),
    fun_of F29, He.glo_ok X G (c.fact 29 rfl), fun_of F30, He.glo_ok X G (c.fact 30 rfl), fun_of F31, He.glo_ok X G (c.fact 31 rfl),
    fun_of F32, He.glo_ok X G (c.fact 32 rfl), fun_of F33, He.glo_ok X G (c.fact 33 rfl), fun_of F34, He.glo_ok X G (c.fact 34 rfl),
    F35, He.glo_ok X G (c.fact 35 rfl), fun_of F36, He.glo_ok X G (c.fact 36 rfl), fun_of F37, He.glo_ok X G (c.fact 37 rfl),
    fun_of F38, He.glo_ok X G (c.fact 38 rfl), fun_of F39, He.glo_ok X G (c.fact 39 rfl), fun_of F40, He.glo_ok X G (c.fact 40 rfl),
    fun_of F41, He.glo_ok X G (c.fact 41 rfl), fun_of F42, He.glo_ok X G (c.fact 42 rfl), fun_of F43, He.glo_ok X G (c.fact 43 rfl),
    fun_of F44, He.glo_ok X G (c.fact 44 rfl), fun_of F45, He.glo_ok X G (c.fact 45 rfl), fun_of F46, He.glo_ok X G (c.fact 46 rfl),
    fun_of F47, He.glo_ok X G (c.fact 47 rfl), fun_of F48, He.glo_ok X G (c.fact 48 rfl), fun_of F49, He.glo_ok X G (c.fact 49 rfl),
    fun_of F50, He.glo_ok X G (c.fact 50 rfl), F51, fun_of F52, fun_of F53, fun_of F54,
    F55, fun_of F56, fun_of F57, (by rw [← hA_come_coming mo]; exact He.glo_ok X G (c.fact 77 rfl)), He.ga K "Band", He.glo_ok X G (c.fact 78 rfl),
    He.cls_ok (c.fact 79 rfl), He.mkr_ok (c.fact 80 rfl), He.noat_ok (c.fact 81 rfl), He.noat_ok (c.fact 82 rfl), He.noat_ok (c.fact 83 rfl), He.noat_ok (c.fact 84 rfl),
    He.noat_ok (c.fact 85 rfl), (He.meth_ok (c.fact 86 (f := .meth "Band" "rows") rfl)), (He.meth_ok (c.fact 87 (f := .meth "Band" "full_rows") rfl)), (He.meth_ok (c.fact 88 (f := .meth "Band" "lots") rfl)), (He.meth_ok (c.fact 89 (f := .meth "Band" "come") rfl)), (He.meth_ok (c.fact 91 (f := .meth "Band" "__len__") rfl)).1,
    (He.meth_ok (c.fact 91 (f := .meth "Band" "__len__") rfl)).2, (He.meth_ok (c.fact 90 (f := .meth "Band" "__contains__") rfl)).1, (He.meth_ok (c.fact 90 (f := .meth "Band" "__contains__") rfl)).2, He.ga K "LINE_SIZES", He.glo_ok X G (c.fact 76 rfl), hV_LINE_SIZES mo,
    He.free_ok X G (c.fact 51 rfl), He.free_ok X G (c.fact 52 rfl), He.free_ok X G (c.fact 53 rfl), He.free_ok X G (c.fact 54 rfl), He.free_ok X G (c.fact 55 rfl), He.free_ok X G (c.fact 56 rfl),
    He.free_ok X G (c.fact 57 rfl), He.free_ok X G (c.fact 58 rfl), He.free_ok X G (c.fact 59 rfl), He.free_ok X G (c.fact 60 rfl), He.free_ok X G (c.fact 61 rfl), He.free_ok X G (c.fact 62 rfl),
    He.free_ok X G (c.fact 63 rfl), He.free_ok X G (c.fact 64 rfl), He.free_ok X G (c.fact 65 rfl), He.free_ok X G (c.fact 66 rfl), t0, C0,
    t1, C1, t2, C2, t3, C3,
    t4, C4, t5, C5, t6, C6,
    t7, C7, t8, C8⟩, rfl, rfl, fun s v => b s [v] rfl⟩
theorem hFacts {P : Program} {w : World} {K : PySem.W.Frag} {h : Heap} {mg : Str → Option Value} {f : Addr} (X : K.In h) (G : h.Ns mainGlobals mg) (hfa : mg ("law" : Str) = some (.ref f)) (c : He.SaysX hFa hFn hTs [] hEx w h K) :
    ∃ fd : FuncData, (∀ (s : Shared) (v : Value), BindsTo s fd ⟨[v], []⟩ [("_law_script", v)]) ∧ ∀ base : Heap, K.In base → base.Ns mainGlobals mg → FnOk P w K mg base CX0 9 f fd ["_law_script"] (SpE (Rg_law K)) := by
  obtain ⟨T, e9, e0, hb⟩ := hTxt X G c.t.d c.more
  have e := hfa.symm.trans T.g_law
  cases e
  have td := c.t.tab 0
  exact ⟨T.d_law, hb, fun base _ _ => all_ok T (by rw [e9]; exact ⟨td, tab_none c.t 0 rfl⟩)⟩
theorem hSp {K : PySem.W.Frag} {H : Hp} {a : Addr} {ns : List Int} (hl : ns.length ≤ 63) (hS : SqL K H a (ns.map V.int)) : SpE (Rg_law K) [.ref a] H (fun v _ => v = .bl true) (fun _ _ _ => False) :=
  ⟨⟨H, H, Ex.rfl'⟩, [.scr K ns], fun e => e = .dat (.bl true), rfl, .cons (.scr hS) .nil, ⟨ns, rfl, hl, rfl⟩, fun v e W' _ r p => by subst p; cases r; rfl⟩
end Nt
open PySem PySem.W PySem.Calls PyProof.Rows
theorem PySem.Challenge.cw_newesttells_k08_whole_rows_by_closure_holds : PySem.Challenge.rw_newesttells_k08_whole_rows_by_closure.Holds := by
  w_on; o_law
  refine HandSHeadRun.head_any (r := OpenLaw.row PySem.Challenge.rw_newesttells_k08_whole_rows_by_closure) (q := view (OpenLaw.row PySem.Challenge.rw_newesttells_k08_whole_rows_by_closure).prog [88]) (H := Nt.hHk) (ob := Nt.hOb) (M := 6000) (loose := Nt.hNames) (d := HandSHeadRun.topDef (OpenLaw.row PySem.Challenge.rw_newesttells_k08_whole_rows_by_closure).prog 88) (kwd := []) Nt.hOb_eq
    (by kernel_rfl) (fun s => by kernel_rfl) Nt.hRun (by kernel_rfl) (by kernel_rfl) (by kernel_rfl) (by rfl) (by first | assumption | decide +kernel) (by decide +kernel) ⟨rfl, rfl, rfl, rfl, rfl, by decide +kernel⟩ ?hw ?hc
  case hw => w_witness2
  case hc =>
    refine L2.walk_ofE (l := PySem.Challenge.rw_newesttells_k08_whole_rows_by_closure) (n := 63) (k := 9) (x := "_law_script") (CX := L2.CX0) rfl (by decide) (by kernel_rfl) ⟨rfl, by decide, by decide⟩ ?F (fun _ _ _ _ z => z)
    intro w mg fa h Y G hmg0
    obtain ⟨K, KX, c⟩ := Y
    have hmg : mg ("law" : PySem.Str) = some (.ref fa) := by
      have e : (HandSHeadRun.topDef (OpenLaw.row PySem.Challenge.rw_newesttells_k08_whole_rows_by_closure).prog 88).name = ("law" : PySem.Str) := by kernel_rfl
      rw [← e]
      exact hmg0
    obtain ⟨fd, hb, hF⟩ := Nt.hFacts (P := (PySem.Challenge.rw_newesttells_k08_whole_rows_by_closure).prog) (w := w) KX G hmg c
    exact ⟨K, fd, Nt.SpE (Nt.Rg_law K), KX, hb, fun H a ns hl _ hS => Nt.hSp hl hS, hF⟩

